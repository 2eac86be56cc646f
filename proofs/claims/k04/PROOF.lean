import PyProof.Rows.All
import Wide.All
import OpenK.AllK
import Wide.FinOn
import HandS.ForMost
import HandS.Evl
import HandS.IsInst
import HandS.TupAny
import HandS.Deep
import HandS.Wide
import HandS.ForExc
import HandS.EndTab
import KE.KeyNested
import HandS.TupLen
import HandS.Style
import HandS.Conv
import HandS.StrMore
import HandS.Text
import HandS.Dict
import HandS.DictTup
import HandS.Call
import HandS.List
import KE.GoesNew
import KE.GoesEnum
import KE.GoesMore
import HandS.Zip
import HandS.Rev
import PyProof.ReprRoads
import PyProof.EnumMake
import HandS.WideBits
import PyProof.ListNew
import HandS.ExcInit
import HandS.FStr
import KE.KExcSuper
import KE.KExcLine
import HandS.Ends
import PyProof.ReprLen
import HandS.DictComp
import HandS.HotCalls
import HandS.ExcIs
import HandS.ExcField
import HandS.TryMany
import HandS.SetFor
import HandS.SortInts
import HandS.Strs
import HandS.SetKeys
import HandS.Sort
import PyProof.DictMoreH
import HandS.SuiteRaise
import HandS.SortRule
import HandS.ExcOwn
import KE.DataMinMax
import HandS.SortKw
import KE.DataMinKey
import HandS.FltList
import HandS.NestedK
import KE.SortKeyHeap
import HandS.RevRange
import KE.KDictZip
import HandS.Iter
import HandS.More
import HandS.CallLocal
import HandS.Defaults
import HandS.ReplaceLit
import HandS.ReplaceList
import PySem.Challenge.RW_wardens_k04_operators_without_parenthese
set_option Elab.async false
set_option linter.all false
set_option maxRecDepth 100000
set_option maxHeartbeats 4000000
set_option Elab.async false
set_option linter.all false
set_option maxRecDepth 100000
set_option maxHeartbeats 4000000
namespace Pf
open PySem L2
def tabT : List (Addr × Str) := []
abbrev NT (o : HO) : Prop := ∀ ps, o ≠ .tbl ps
theorem nt_not {o : HO} (n : ¬ NT o) : ∃ ps, some o = some (HO.tbl ps) := by
  cases o with
  | tbl ps => exact ⟨ps, rfl⟩
  | _ => exact absurd (by intro ps z; cases z) n
abbrev TB (H : Hp) : Prop := LamX.Tabs tabT H
theorem tb_nil {H : Hp} (h : tabT = [] := by rfl) : TB H := fun p hp => by rw [h] at hp; cases hp
structure Same (H H' : Hp) : Prop where
  st : ∀ b o, H b = some o → NT o → H' b = some o
  dom : ∀ b, H' b = none → H b = none
  tb : TB H → TB H'
theorem Same.fn {H H' : Hp} (e : Same H H') (b : Addr) (o : HO) (h : H b = some o) (n : NT o := by first | assumption | (intro ps z; cases z; done) | (intro ps z; unfold LamX.CodeO at z; cases z; done) | exact DicO.nt (by assumption) | exact DicO.nc (by assumption) | exact fun _ => dn_nc | (intro ps z; unfold DN at z; cases z; done) | fail) : H' b = some o := e.st b o h n
instance {H H' : Hp} : CoeFun (Same H H') fun _ => ∀ b o, H b = some o → (n : NT o := by first | assumption | (intro ps z; cases z; done) | (intro ps z; unfold LamX.CodeO at z; cases z; done) | exact DicO.nt (by assumption) | exact DicO.nc (by assumption) | exact fun _ => dn_nc | (intro ps z; unfold DN at z; cases z; done) | fail) → H' b = some o := ⟨fun e => @Same.fn _ _ e⟩
theorem Same.of {H H' : Hp} (e : ∀ b o, H b = some o → H' b = some o) : Same H H' := ⟨fun b o h _ => e b o h, fun b h => (by
  cases q : H b with
  | none => rfl
  | some o => rw [e b o q] at h; cases h), fun t => LamX.Tabs.ext t e⟩
theorem Same.refl (H : Hp) : Same H H := ⟨fun _ _ h _ => h, fun _ h => h, id⟩
theorem Same.trans {H H1 H2 : Hp} (a : Same H H1) (b : Same H1 H2) : Same H H2 := ⟨fun c o h n => b.st c o (a.st c o h n) n, fun c h => a.dom c (b.dom c h), fun t => b.tb (a.tb t)⟩
theorem Same.free {H H' : Hp} (e : Same H H') {l : Addr} (h : H' l = Option.none) : H l = Option.none := e.dom l h
theorem Same.seq {K : PySem.W.Frag} {H H' : Hp} {a : Addr} {xs : List V} (e : Same H H') (h : SqL K H a xs) : SqL K H' a xs := by
  rcases h with (h | ⟨o, h⟩) | h
  · exact .inl (.inl (e _ _ h))
  · exact .inl (.inr ⟨o, e _ _ h⟩)
  · exact .inr h
structure Sub (F H : Hp) : Prop extends Same F H where
  th : TB H
theorem Sub.fn {H H' : Hp} (e : Sub H H') (b : Addr) (o : HO) (h : H b = some o) (n : NT o := by first | assumption | (intro ps z; cases z; done) | (intro ps z; unfold LamX.CodeO at z; cases z; done) | exact DicO.nt (by assumption) | exact DicO.nc (by assumption) | exact fun _ => dn_nc | (intro ps z; unfold DN at z; cases z; done) | fail) : H' b = some o := e.st b o h n
instance {F H : Hp} : CoeFun (Sub F H) fun _ => ∀ b o, F b = some o → (n : NT o := by first | assumption | (intro ps z; cases z; done) | (intro ps z; unfold LamX.CodeO at z; cases z; done) | exact DicO.nt (by assumption) | exact DicO.nc (by assumption) | exact fun _ => dn_nc | (intro ps z; unfold DN at z; cases z; done) | fail) → H b = some o := ⟨fun e => @Sub.fn _ _ e⟩
instance {F H : Hp} : Coe (Sub F H) (Same F H) := ⟨Sub.toSame⟩
theorem Sub.up {F H H' : Hp} (a : Sub F H) (b : Same H H') : Sub F H' := ⟨a.toSame.trans b, b.tb a.th⟩
theorem tb_put {H : Hp} {a : Addr} {o u : HO} (t : TB H) (h : H a = some u) (n1 : NT u) (n2 : ∀ q, u ≠ LamX.CodeO a q) : TB (upd H a o) := fun p hp => by
  obtain ⟨ps, h1, h2, h3⟩ := t p hp
  refine ⟨ps, ?_, h2, fun pos cv hc => ?_⟩
  · rw [upd_ne fun e => ?_]
    · exact h1
    · rw [← e, h1] at h
      exact n1 ps (Option.some.inj h).symm
  · obtain ⟨c, e1, e2⟩ := h3 pos cv hc
    refine ⟨c, e1, ?_⟩
    rw [upd_ne fun e => ?_]
    · exact e2
    · subst e
      rw [e2] at h
      exact n2 _ (Option.some.inj h).symm
theorem tb_of {H H1 : Hp} (t : TB H) (h1 : ∀ p ∈ tabT, ∀ ps, H p.1 = some (.tbl ps) → H1 p.1 = some (.tbl ps)) (h2 : ∀ a q, H a = some (LamX.CodeO a q) → H1 a = some (LamX.CodeO a q)) : TB H1 := fun p hp => by
  obtain ⟨ps, g1, g2, g3⟩ := t p hp
  exact ⟨ps, h1 p hp _ g1, g2, fun pos cv hc => let ⟨c, e1, e2⟩ := g3 pos cv hc; ⟨c, e1, h2 _ _ e2⟩⟩
theorem Same.put {H H1 : Hp} {a : Addr} {o u : HO} (e : Same H H1) (h0 : H a = none) (h : H1 a = some u) (n1 : NT u := by first | assumption | (intro ps z; cases z; done) | (intro ps z; unfold LamX.CodeO at z; cases z; done) | exact DicO.nt (by assumption) | exact DicO.nc (by assumption) | exact fun _ => dn_nc | (intro ps z; unfold DN at z; cases z; done) | fail) (n2 : ∀ q, u ≠ LamX.CodeO a q := by first | assumption | (intro ps z; cases z; done) | (intro ps z; unfold LamX.CodeO at z; cases z; done) | exact DicO.nt (by assumption) | exact DicO.nc (by assumption) | exact fun _ => dn_nc | (intro ps z; unfold DN at z; cases z; done) | fail) : Same H (upd H1 a o) := ⟨fun b v hb n => (by
    rw [upd_ne (ne_of_none hb h0)]; exact e.st b v hb n), fun b hb => (by
    by_cases c : b = a
    · rw [c]; exact h0
    · rw [upd_ne c] at hb; exact e.dom b hb), fun t => tb_put (e.tb t) h n1 n2⟩
end Pf

set_option Elab.async false
set_option linter.all false
set_option maxRecDepth 100000
set_option maxHeartbeats 4000000
namespace Pf
open PySem L2
abbrev D := PyData
abbrev Fp := Addr → Nat
abbrev Ctx := List (Option Nat)
def kD : Key → D
  | .inl i => .int i
  | .inr x => .str x
abbrev NL := List (NestedKey × Addr × V)
def NRel : NL → List (NestedKey × Addr × Value) → Prop := Paired fun p q => p.1 = q.1 ∧ p.2.1 = q.2.1 ∧ RelV p.2.2 q.2.2
def DNp (a : Addr) (l : NL) (h : Heap) : Prop := l.length ≤ sizeLine ∧ (a == sysModules) = false ∧ ∃ (w : World) (xs : List (NestedKey × Addr × Value)) (o : Obj) (es : Array DictEntry) (ep : Nat),
  NRel l xs ∧ h.get? a = some o ∧ o.ExactDict ∧ o.data = .dict es ep ∧ es.toList = xs.map (fun x => ⟨x.1.hash w, .ref x.2.1, x.2.2⟩) ∧ (xs.map (·.1)).Nodup
def DN (a : Addr) (l : NL) : HO := .ext (DNp a l)
mutual
def keyN : D → Option NestedKey
  | .none => some .none
  | .bool b => some (.num (if b = true then 1 else 0))
  | .int i => some (.num i)
  | .tuple ds => (keyNs ds).map .tup
  | _ => none
def keyNs : List D → Option (List NestedKey)
  | [] => some []
  | d :: ds => (keyN d).bind fun k => (keyNs ds).map (k :: ·)
end
def keyT : D → Option NestedKey
  | .tuple ds => (keyNs ds).bind fun ks => if (NestedKey.tup ks).depth ≤ 8 then some (.tup ks) else none
  | _ => none
def flN : List (D × D) → List (D × D)
  | [] => []
  | p :: r => (.none, p.1) :: (.none, p.2) :: flN r
def flV : NL → List V
  | [] => []
  | p :: l => .ref p.2.1 :: p.2.2 :: flV l
def nEnc (r : List (D × D)) : List (D × D) := (.none, .bool true) :: flN r
def DicO (a : Addr) (o : HO) (kvs : List (D × D)) (vs : List V) : Prop :=
  (∃ l : List (Key × V), o = .dK l ∧ kvs.map (·.1) = l.map (fun p => kD p.1) ∧ vs = l.map (·.2)) ∨
  (∃ (l : List (List Key × V)) (r : List (D × D)), o = .dT l ∧ kvs = (.none, .none) :: r ∧ r.map (·.1) = l.map (fun p => .tuple (p.1.map kD)) ∧ vs = .non :: l.map (·.2)) ∨
  (∃ (l : NL) (r : List (D × D)), o = DN a l ∧ kvs = nEnc r ∧ r.map (fun p => keyT p.1) = l.map (fun p => some p.1) ∧ vs = .bl true :: flV l) ∨
  ∃ (C dx : Addr) (fs : List (Str × V)) (r : List (D × D)), o = .ins C dx fs ∧ kvs = (.none, .int (C : Int)) :: r ∧ r.map (·.1) = fs.map (fun p => .str p.1) ∧ vs = .int (C : Int) :: fs.map (·.2)
theorem DicO.nt {a : Addr} {o : HO} {kvs : List (D × D)} {vs : List V} (q : DicO a o kvs vs) : NT o := by
  rcases q with ⟨l, e, _⟩ | ⟨l, r, e, _⟩ | ⟨l, r, e, _⟩ | ⟨C, dx, fs, r, e, _⟩ <;> (subst e; intro ps z; first | cases z | (unfold DN at z; cases z; done))
theorem Heap.get?_push_size' {h : Heap} {o : Obj} {a : Addr} (e : h.objs.size = a) (ho : o.isFreed = false) : (h.push o).get? a = some o := by
  subst e
  exact _root_.PySem.Heap.get?_push_size h ho
theorem dn_nc {a : Addr} {l : NL} {q : Str} : DN a l ≠ LamX.CodeO a q := fun z => by
  unfold DN LamX.CodeO at z
  have e : DNp a l = fun h : Heap => ∃ (oc : Obj) (vs : Array Value) (t : Tok), h.get? a = some oc ∧ oc.data = .fields vs ∧ vs[1]? = some (.str q t) := by injection z
  have H : DNp a l (Heap.push ⟨(List.replicate a (default : Obj)).toArray, {}⟩ { cls := .none, data := .fields #[.none, .str q default] }) := by
    rw [e]
    refine ⟨_, #[.none, .str q default], default, Heap.get?_push_size' (by simp) rfl, rfl, rfl⟩
  obtain ⟨_, _, w, xs, o, es, ep, _, h1, _, h2, _⟩ := H
  rw [Heap.get?_push_size' (by simp) rfl] at h1
  cases h1
  cases h2
theorem DicO.nc {a : Addr} {o : HO} {kvs : List (D × D)} {vs : List V} (q : DicO a o kvs vs) : ∀ x, o ≠ LamX.CodeO a x := by
  rcases q with ⟨l, e, _⟩ | ⟨l, r, e, _⟩ | ⟨l, r, e, _⟩ | ⟨C, dx, fs, r, e, _⟩ <;> subst e <;> intro x z
  · unfold LamX.CodeO at z; cases z
  · unfold LamX.CodeO at z; cases z
  · exact dn_nc z
  · unfold LamX.CodeO at z; cases z
mutual
inductive Rp (K : PySem.W.Frag) (F : Hp) : V → D → Prop
  | non : Rp K F .non .none
  | bl (b : Bool) : Rp K F (.bl b) (.bool b)
  | int (i : Int) : Rp K F (.int i) (.int i)
  | str (x : Str) : Rp K F (.str x) (.str x)
  | lst {a : Addr} {xs : List V} {ds : List D} : SqL K F a xs → RpAll K F xs ds → Rp K F (.ref a) (.list ds)
  | tup {a : Addr} {xs : List V} {ds : List D} : F a = some (.tup xs) → RpAll K F xs ds → Rp K F (.ref a) (.tuple ds)
  | dic {a : Addr} {o : HO} {vs : List V} {kvs : List (D × D)} : F a = some o → DicO a o kvs vs → RpAll K F vs (kvs.map (·.2)) → Rp K F (.ref a) (.dict kvs)
inductive RpAll (K : PySem.W.Frag) (F : Hp) : List V → List D → Prop
  | nil : RpAll K F [] []
  | cons {v : V} {vs : List V} {d : D} {ds : List D} : Rp K F v d → RpAll K F vs ds → RpAll K F (v :: vs) (d :: ds)
end
section
variable {K : PySem.W.Frag} {F F' H H' : Hp}
theorem rd_up {a : Addr} {u : HO} (e : Same F F') (h : Rd F a u) (n : NT u := by first | assumption | (intro ps z; cases z; done) | (intro ps z; unfold LamX.CodeO at z; cases z; done) | exact DicO.nt (by assumption) | exact DicO.nc (by assumption) | exact fun _ => dn_nc | (intro ps z; unfold DN at z; cases z; done) | fail) : Rd F' a u := by
  rcases h with h | ⟨o, h⟩
  · exact .inl (e _ _ h)
  · exact .inr ⟨o, e _ _ h⟩
theorem sqL_up {a : Addr} {xs : List V} (e : Same F F') (h : SqL K F a xs) : SqL K F' a xs := h.imp (fun h => rd_up e h) id
mutual
theorem Rp.up (e : Same F F') : ∀ {v : V} {d : D}, Rp K F v d → Rp K F' v d
  | _, _, .non => .non
  | _, _, .bl b => .bl b
  | _, _, .int i => .int i
  | _, _, .str x => .str x
  | _, _, .lst h r => .lst (sqL_up e h) (RpAll.up e r)
  | _, _, .tup h r => .tup (e _ _ h) (RpAll.up e r)
  | _, _, .dic h q r => .dic (e _ _ h) q (RpAll.up e r)
theorem RpAll.up (e : Same F F') : ∀ {vs : List V} {ds : List D}, RpAll K F vs ds → RpAll K F' vs ds
  | _, _, .nil => .nil
  | _, _, .cons a b => .cons (Rp.up e a) (RpAll.up e b)
end
mutual
def nd : D → Bool
  | .list xs => ndAll xs
  | .tuple xs => ndAll xs
  | .dict _ => false
  | _ => true
def ndAll : List D → Bool
  | [] => true
  | d :: ds => nd d && ndAll ds
end
mutual
theorem Rp.dp : ∀ {v : V} {d : D}, Rp K F v d → nd d = true → Dp K F v d
  | _, _, .non, _ => .non
  | _, _, .bl b, _ => .bl b
  | _, _, .int i, _ => .int i
  | _, _, .str x, _ => .str x
  | _, _, .lst h r, q => .lst h (RpAll.dp r (by simpa [nd] using q))
  | _, _, .tup h r, q => .tup (SqT.of h) (RpAll.dp r (by simpa [nd] using q))
  | _, _, .dic h _ r, q => by simp [nd] at q
theorem RpAll.dp : ∀ {vs : List V} {ds : List D}, RpAll K F vs ds → ndAll ds = true → DpAll K F vs ds
  | _, _, .nil, _ => .nil
  | _, _, .cons a b, q => by
    simp only [ndAll, Bool.and_eq_true] at q
    exact .cons (Rp.dp a q.1) (RpAll.dp b q.2)
end
theorem RpAll.length : ∀ {vs : List V} {ds : List D}, RpAll K F vs ds → vs.length = ds.length
  | _, _, .nil => rfl
  | _, _, .cons _ b => by simp [RpAll.length b]
theorem RpAll.get : ∀ {vs : List V} {ds : List D} {i : Nat} {d : D}, RpAll K F vs ds → ds[i]? = some d → ∃ v, vs[i]? = some v ∧ Rp K F v d
  | _, _, _, _, .nil, h => by simp at h
  | _, _, 0, _, .cons a b, h => ⟨_, rfl, by simp at h; exact h ▸ a⟩
  | _, _, i + 1, _, .cons a b, h => by
    obtain ⟨v, h1, h2⟩ := RpAll.get (i := i) b (by simpa using h)
    exact ⟨v, by simpa using h1, h2⟩
theorem RpAll.append : ∀ {vs ws : List V} {ds es : List D}, RpAll K F vs ds → RpAll K F ws es → RpAll K F (vs ++ ws) (ds ++ es)
  | _, _, _, _, .nil, q => q
  | _, _, _, _, .cons a b, q => .cons a (RpAll.append b q)
theorem RpAll.take (n : Nat) : ∀ {vs : List V} {ds : List D}, RpAll K F vs ds → RpAll K F (vs.take n) (ds.take n) := by
  induction n with
  | zero => intro vs ds _; simpa using RpAll.nil
  | succ n ih => intro vs ds h; cases h with
    | nil => simpa using RpAll.nil
    | cons a b => simpa using RpAll.cons a (ih b)
theorem RpAll.drop (n : Nat) : ∀ {vs : List V} {ds : List D}, RpAll K F vs ds → RpAll K F (vs.drop n) (ds.drop n) := by
  induction n with
  | zero => intro vs ds h; simpa using h
  | succ n ih => intro vs ds h; cases h with
    | nil => simpa using RpAll.nil
    | cons a b => simpa using ih b
theorem RpAll.reverse : ∀ {vs : List V} {ds : List D}, RpAll K F vs ds → RpAll K F vs.reverse ds.reverse
  | _, _, .nil => .nil
  | _, _, .cons a b => by simpa using RpAll.append (RpAll.reverse b) (.cons a .nil)

def OwnAll (P : D → V → Fp → Prop) : List D → List V → Fp → Prop
  | [], [], f => ∀ b, f b = 0
  | d :: ds, v :: vs, f => ∃ f1 f2, P d v f1 ∧ OwnAll P ds vs f2 ∧ ∀ b, f b = f1 b + f2 b
  | _, _, _ => False
def Own (K : PySem.W.Frag) (F H : Hp) : Nat → D → V → Fp → Prop
  | 0, d, v, f => Rp K F v d ∧ ∀ b, f b = 0
  | n + 1, .list ds, v, f => ∃ a vs f2, v = .ref a ∧ H a = some (.lst vs) ∧ F a = none ∧ OwnAll (Own K F H n) ds vs f2 ∧ ∀ b, f b = (if b = a then 1 else 0) + f2 b
  | n + 1, .dict kvs, v, f => ∃ a o vs f2, v = .ref a ∧ H a = some o ∧ F a = none ∧ DicO a o kvs vs ∧ OwnAll (Own K F H n) (kvs.map (·.2)) vs f2 ∧ ∀ b, f b = (if b = a then 1 else 0) + f2 b
  | _ + 1, .none, v, f => Rp K F v .none ∧ ∀ b, f b = 0
  | _ + 1, .bool c, v, f => Rp K F v (.bool c) ∧ ∀ b, f b = 0
  | _ + 1, .int i, v, f => Rp K F v (.int i) ∧ ∀ b, f b = 0
  | 1, .str x, v, f => Rp K F v (.str x) ∧ ∀ b, f b = 0
  | _ + 2, .str _, _, _ => False
  | 1, .tuple ds, v, f => Rp K F v (.tuple ds) ∧ ∀ b, f b = 0
  | _ + 2, .tuple _, _, _ => False
theorem OwnAll.imp {P Q : D → V → Fp → Prop} (g : Fp) (hPQ : ∀ d v f, (∀ b, f b ≤ g b) → P d v f → Q d v f) : ∀ {ds : List D} {vs : List V} {f : Fp}, (∀ b, f b ≤ g b) → OwnAll P ds vs f → OwnAll Q ds vs f
  | [], [], _, _, h => h
  | _ :: _, _ :: _, f, hf, ⟨f1, f2, a, b, e⟩ => ⟨f1, f2, hPQ _ _ _ (fun x => by have := hf x; have := e x; omega) a, OwnAll.imp g hPQ (fun x => by have := hf x; have := e x; omega) b, e⟩
  | [], _ :: _, _, _, h => h.elim
  | _ :: _, [], _, _, h => h.elim
theorem OwnAll.length {P : D → V → Fp → Prop} : ∀ {ds : List D} {vs : List V} {f : Fp}, OwnAll P ds vs f → vs.length = ds.length
  | [], [], _, _ => rfl
  | _ :: _, _ :: _, _, ⟨_, _, _, b, _⟩ => by simp [OwnAll.length b]
  | [], _ :: _, _, h => h.elim
  | _ :: _, [], _, h => h.elim
theorem OwnAll.frz {P : D → V → Fp → Prop} (hP : ∀ d v f, P d v f → Rp K F v d) : ∀ {ds : List D} {vs : List V} {f : Fp}, OwnAll P ds vs f → RpAll K F vs ds
  | [], [], _, _ => .nil
  | _ :: _, _ :: _, _, ⟨_, _, a, b, _⟩ => .cons (hP _ _ _ a) (OwnAll.frz hP b)
  | [], _ :: _, _, h => h.elim
  | _ :: _, [], _, h => h.elim
theorem ownAll_of {P : D → V → Fp → Prop} (hP : ∀ d v, Rp K F v d → P d v (fun _ => 0)) : ∀ {vs : List V} {ds : List D}, RpAll K F vs ds → OwnAll P ds vs (fun _ => 0)
  | _, _, .nil => fun _ => rfl
  | _, _, .cons a b => ⟨_, _, hP _ _ a, ownAll_of hP b, fun _ => rfl⟩
theorem Own.mono {F F' H H' : Hp} (e : Same F F') : ∀ (n : Nat) {d : D} {v : V} {f : Fp}, (∀ a, 0 < f a → F' a = F a ∧ H' a = H a) → Own K F H n d v f → Own K F' H' n d v f
  | 0, _, _, _, _, ⟨r, z⟩ => ⟨r.up e, z⟩
  | n + 1, .list ds, v, f, hk, ⟨a, vs, f2, ev, ha, hn, q, hf⟩ => by
    have ha' := hk a (by have := hf a; simp at this; omega)
    refine ⟨a, vs, f2, ev, ha'.2.trans ha, ha'.1.trans hn, ?_, hf⟩
    exact OwnAll.imp f2 (fun d v g hg p => Own.mono e n (fun b hb => hk b (by have := hf b; have := hg b; omega)) p) (fun _ => Nat.le_refl _) q
  | n + 1, .dict kvs, v, f, hk, ⟨a, o, ks, f2, ev, ha, hn, hks, q, hf⟩ => by
    have ha' := hk a (by have := hf a; simp at this; omega)
    refine ⟨a, o, ks, f2, ev, ha'.2.trans ha, ha'.1.trans hn, hks, ?_, hf⟩
    exact OwnAll.imp f2 (fun d v g hg p => Own.mono e n (fun b hb => hk b (by have := hf b; have := hg b; omega)) p) (fun _ => Nat.le_refl _) q
  | _ + 1, .none, _, _, _, ⟨r, z⟩ | _ + 1, .bool _, _, _, _, ⟨r, z⟩ | _ + 1, .int _, _, _, _, ⟨r, z⟩ | 1, .str _, _, _, _, ⟨r, z⟩ | 1, .tuple _, _, _, _, ⟨r, z⟩ => ⟨r.up e, z⟩
  | _ + 2, .tuple _, _, _, _, h | _ + 2, .str _, _, _, _, h => h.elim
theorem OwnAll.there {P : D → V → Fp → Prop} {a : Addr} {C : Prop} (hP : ∀ d v f, P d v f → 0 < f a → C) : ∀ {ds : List D} {vs : List V} {f : Fp}, OwnAll P ds vs f → 0 < f a → C
  | [], [], _, h, p => by have := h a; omega
  | _ :: _, _ :: _, f, ⟨f1, f2, q, b, e⟩, p => by
    by_cases h1 : 0 < f1 a
    · exact hP _ _ _ q h1
    · exact OwnAll.there hP b (by have := e a; omega)
  | [], _ :: _, _, h, _ => h.elim
  | _ :: _, [], _, h, _ => h.elim
theorem Own.there {F H : Hp} : ∀ (n : Nat) {d : D} {v : V} {f : Fp} {a : Addr}, Own K F H n d v f → 0 < f a → F a = none ∧ H a ≠ none ∧ (∀ xs, H a ≠ some (.tup xs)) ∧ ∀ o, H a = some o → NT o ∧ ∀ q, o ≠ LamX.CodeO a q
  | 0, _, _, _, a, ⟨_, z⟩, p => by have := z a; omega
  | n + 1, .list ds, v, f, a, ⟨b, vs, f2, ev, hb, hn, q, hf⟩, p => by
    by_cases e : a = b
    · subst e; exact ⟨hn, by rw [hb]; simp, fun xs => by rw [hb]; simp, fun o h => by rw [hb] at h; cases h; exact ⟨by first | assumption | (intro ps z; cases z; done) | (intro ps z; unfold LamX.CodeO at z; cases z; done) | exact DicO.nt (by assumption) | exact DicO.nc (by assumption) | exact fun _ => dn_nc | (intro ps z; unfold DN at z; cases z; done) | fail, by first | assumption | (intro ps z; cases z; done) | (intro ps z; unfold LamX.CodeO at z; cases z; done) | exact DicO.nt (by assumption) | exact DicO.nc (by assumption) | exact fun _ => dn_nc | (intro ps z; unfold DN at z; cases z; done) | fail⟩⟩
    · exact OwnAll.there (fun d v f h p => Own.there n h p) q (by have := hf a; simp [e] at this; omega)
  | n + 1, .dict kvs, v, f, a, ⟨b, o, vs, f2, ev, hb, hn, hd, q, hf⟩, p => by
    by_cases e : a = b
    · subst e; exact ⟨hn, by rw [hb]; simp, fun xs => by rw [hb]; rcases hd with ⟨l, rfl, _⟩ | ⟨l, r, rfl, _⟩ | ⟨l, r, rfl, _⟩ | ⟨C, dx, fs, r, rfl, _⟩ <;> simp [DN], fun o h => by rw [hb] at h; cases h; exact ⟨hd.nt, hd.nc⟩⟩
    · exact OwnAll.there (fun d v f h p => Own.there n h p) q (by have := hf a; simp [e] at this; omega)
  | _ + 1, .none, _, _, a, ⟨_, z⟩, p | _ + 1, .bool _, _, _, a, ⟨_, z⟩, p | _ + 1, .int _, _, _, a, ⟨_, z⟩, p | 1, .str _, _, _, a, ⟨_, z⟩, p | 1, .tuple _, _, _, a, ⟨_, z⟩, p => by have := z a; omega
  | _ + 2, .tuple _, _, _, _, h, _ | _ + 2, .str _, _, _, _, h, _ => h.elim
theorem Own.rp {F H : Hp} (e : Sub F H) : ∀ (n : Nat) {d : D} {v : V} {f : Fp}, Own K F H n d v f → Rp K H v d
  | 0, _, _, _, ⟨r, _⟩ => r.up e
  | n + 1, .list ds, v, f, ⟨b, vs, f2, ev, hb, hn, q, hf⟩ => by
    subst ev; exact .lst (SqL.of hb) (OwnAll.frz (fun d v f h => Own.rp e n h) q)
  | n + 1, .dict kvs, v, f, ⟨b, o, ks, f2, ev, hb, hn, hk, q, hf⟩ => by
    subst ev; exact .dic hb hk (OwnAll.frz (fun d v f h => Own.rp e n h) q)
  | _ + 1, .none, _, _, ⟨r, _⟩ | _ + 1, .bool _, _, _, ⟨r, _⟩ | _ + 1, .int _, _, _, ⟨r, _⟩ | 1, .str _, _, _, ⟨r, _⟩ | 1, .tuple _, _, _, ⟨r, _⟩ => r.up e
  | _ + 2, .tuple _, _, _, h | _ + 2, .str _, _, _, h => h.elim
structure Fz (F F' H : Hp) (f g : Fp) : Prop where
  up : Same F F'
  fz : ∀ a, g a < f a → F' a = H a
  ow : ∀ a, 0 < g a → F' a = none
theorem OwnAll.fz {P : D → V → Fp → Prop} {F' : Hp} {C : Addr → Prop} (hP : ∀ d v f, (∀ a, 0 < f a → C a) → P d v f → Rp K F' v d) : ∀ {ds : List D} {vs : List V} {f : Fp}, (∀ a, 0 < f a → C a) → OwnAll P ds vs f → RpAll K F' vs ds
  | [], [], _, _, _ => .nil
  | _ :: _, _ :: _, f, hf, ⟨f1, f2, a, b, e⟩ => .cons (hP _ _ _ (fun x hx => hf x (by have := e x; omega)) a) (OwnAll.fz hP (fun x hx => hf x (by have := e x; omega)) b)
  | [], _ :: _, _, _, h => h.elim
  | _ :: _, [], _, _, h => h.elim
theorem Own.fz {F F' H : Hp} (e : Same F F') : ∀ (n : Nat) {d : D} {v : V} {f : Fp}, (∀ a, 0 < f a → F' a = H a) → Own K F H n d v f → Rp K F' v d
  | 0, _, _, _, _, ⟨r, _⟩ => r.up e
  | n + 1, .list ds, v, f, hk, ⟨b, vs, f2, ev, hb, hn, q, hf⟩ => by
    subst ev
    exact .lst (SqL.of ((hk b (by have := hf b; simp at this; omega)).trans hb)) (OwnAll.fz (C := fun a => F' a = H a) (fun d v f c h => Own.fz e n c h) (fun a ha => hk a (by have := hf a; omega)) q)
  | n + 1, .dict kvs, v, f, hk, ⟨b, o, ks, f2, ev, hb, hn, hks, q, hf⟩ => by
    subst ev
    exact .dic ((hk b (by have := hf b; simp at this; omega)).trans hb) hks (OwnAll.fz (C := fun a => F' a = H a) (fun d v f c h => Own.fz e n c h) (fun a ha => hk a (by have := hf a; omega)) q)
  | _ + 1, .none, _, _, _, ⟨r, _⟩ | _ + 1, .bool _, _, _, _, ⟨r, _⟩ | _ + 1, .int _, _, _, _, ⟨r, _⟩ | 1, .str _, _, _, _, ⟨r, _⟩ | 1, .tuple _, _, _, _, ⟨r, _⟩ => r.up e
  | _ + 2, .tuple _, _, _, _, h | _ + 2, .str _, _, _, _, h => h.elim
theorem OwnAll.down {F H : Hp} {P : D → V → Fp → Prop} {Q : Hp → D → V → Fp → Prop} (hP : ∀ d v f, P d v f → ∃ g, (∀ a, g a ≤ f a) ∧ ∀ F', Fz F F' H f g → Q F' d v g) :
    ∀ {ds : List D} {vs : List V} {f : Fp}, OwnAll P ds vs f → ∃ g, (∀ a, g a ≤ f a) ∧ ∀ F', Fz F F' H f g → OwnAll (Q F') ds vs g
  | [], [], f, h => ⟨f, fun _ => Nat.le_refl _, fun _ _ => h⟩
  | _ :: _, _ :: _, f, ⟨f1, f2, a, b, e⟩ => by
    obtain ⟨g1, l1, q1⟩ := hP _ _ _ a
    obtain ⟨g2, l2, q2⟩ := OwnAll.down hP b
    refine ⟨fun x => g1 x + g2 x, fun x => by have := l1 x; have := l2 x; have := e x; show g1 x + g2 x ≤ _; omega, fun F' z => ⟨g1, g2, q1 F' ⟨z.up, fun x hx => z.fz x ?_, fun x hx => z.ow x ?_⟩, q2 F' ⟨z.up, fun x hx => z.fz x ?_, fun x hx => z.ow x ?_⟩, fun _ => rfl⟩⟩
    · have := l1 x; have := l2 x; have := e x; show g1 x + g2 x < _; omega
    · show 0 < g1 x + g2 x; omega
    · have := l1 x; have := l2 x; have := e x; show g1 x + g2 x < _; omega
    · show 0 < g1 x + g2 x; omega
  | [], _ :: _, _, h => h.elim
  | _ :: _, [], _, h => h.elim
theorem Own.down {F H : Hp} : ∀ (n m : Nat) {d : D} {v : V} {f : Fp}, m ≤ n → Own K F H n d v f → ∃ g, (∀ a, g a ≤ f a) ∧ ∀ F', Fz F F' H f g → Own K F' H m d v g
  | n, 0, _, _, f, _, h => ⟨fun _ => 0, fun _ => Nat.zero_le _, fun F' z => ⟨Own.fz z.up n (fun a ha => z.fz a ha) h, fun _ => rfl⟩⟩
  | 0, m + 1, _, _, _, h, _ => by omega
  | n + 1, m + 1, .list ds, v, f, hm, ⟨b, vs, f2, ev, hb, hn, q, hf⟩ => by
    obtain ⟨g2, l2, q2⟩ := OwnAll.down (Q := fun F' d v g => Own K F' H m d v g) (fun d v f h => Own.down n m (by omega) h) q
    refine ⟨fun a => (if a = b then 1 else 0) + g2 a, fun a => by have := l2 a; have := hf a; show (if a = b then 1 else 0) + g2 a ≤ _; omega, fun F' z => ⟨b, vs, g2, ev, hb, z.ow b (by simp; omega), q2 F' ⟨z.up, fun a ha => z.fz a ?_, fun a ha => z.ow a ?_⟩, fun _ => rfl⟩⟩
    · have := hf a; show (if a = b then 1 else 0) + g2 a < _; omega
    · show 0 < (if a = b then 1 else 0) + g2 a; omega
  | n + 1, m + 1, .dict ds, v, f, hm, ⟨b, o, vs, f2, ev, hb, hn, hk, q, hf⟩ => by
    obtain ⟨g2, l2, q2⟩ := OwnAll.down (Q := fun F' d v g => Own K F' H m d v g) (fun d v f h => Own.down n m (by omega) h) q
    refine ⟨fun a => (if a = b then 1 else 0) + g2 a, fun a => by have := l2 a; have := hf a; show (if a = b then 1 else 0) + g2 a ≤ _; omega, fun F' z => ⟨b, o, vs, g2, ev, hb, z.ow b (by simp; omega), hk, q2 F' ⟨z.up, fun a ha => z.fz a ?_, fun a ha => z.ow a ?_⟩, fun _ => rfl⟩⟩
    · have := hf a; show (if a = b then 1 else 0) + g2 a < _; omega
    · show 0 < (if a = b then 1 else 0) + g2 a; omega
  | _ + 1, _ + 1, .none, _, f, _, ⟨r, z⟩ | _ + 1, _ + 1, .bool _, _, f, _, ⟨r, z⟩ | _ + 1, _ + 1, .int _, _, f, _, ⟨r, z⟩ => ⟨f, fun _ => Nat.le_refl _, fun _ y => ⟨r.up y.up, z⟩⟩
  | 1, 1, .str _, _, f, _, ⟨r, z⟩ | 1, 1, .tuple _, _, f, _, ⟨r, z⟩ => ⟨f, fun _ => Nat.le_refl _, fun _ y => ⟨r.up y.up, z⟩⟩
  | _ + 2, _ + 1, .tuple _, _, f, _, h | _ + 2, _ + 1, .str _, _, f, _, h => h.elim
  | 1, _ + 2, _, _, f, hm, h => by omega

def Slots (K : PySem.W.Frag) (F H : Hp) : Ctx → St → List D → Fp → Prop
  | [], [], [], f => ∀ b, f b = 0
  | none :: Γ, _ :: σ, _ :: env, f => Slots K F H Γ σ env f
  | some n :: Γ, s :: σ, d :: env, f => ∃ v f1 f2, s = some v ∧ Own K F H n d v f1 ∧ Slots K F H Γ σ env f2 ∧ ∀ b, f b = f1 b + f2 b
  | _, _, _, _ => False
theorem Slots.mono {F F' H H' : Hp} (e : Same F F') : ∀ {Γ : Ctx} {σ : St} {env : List D} {f : Fp}, (∀ a, 0 < f a → F' a = F a ∧ H' a = H a) → Slots K F H Γ σ env f → Slots K F' H' Γ σ env f
  | [], [], [], _, _, h => h
  | none :: Γ, _ :: _, _ :: _, _, hk, h => Slots.mono (Γ := Γ) e hk h
  | some n :: _, _ :: _, _ :: _, f, hk, ⟨v, f1, f2, es, o, r, hf⟩ => ⟨v, f1, f2, es, o.mono e n (fun a ha => hk a (by have := hf a; omega)), Slots.mono e (fun a ha => hk a (by have := hf a; omega)) r, hf⟩
  | [], _ :: _, _, _, _, h | [], [], _ :: _, _, _, h | _ :: _, [], _, _, _, h | _ :: _, _ :: _, [], _, _, h => by simp [Slots] at h
theorem Slots.there {F H : Hp} : ∀ {Γ : Ctx} {σ : St} {env : List D} {f : Fp} {a : Addr}, Slots K F H Γ σ env f → 0 < f a → F a = none ∧ H a ≠ none ∧ (∀ xs, H a ≠ some (.tup xs)) ∧ ∀ o, H a = some o → NT o ∧ ∀ q, o ≠ LamX.CodeO a q
  | [], [], [], _, a, h, p => by have := h a; omega
  | none :: Γ, _ :: _, _ :: _, _, _, h, p => Slots.there (Γ := Γ) h p
  | some n :: _, _ :: _, _ :: _, f, a, ⟨v, f1, f2, es, o, r, hf⟩, p => by
    by_cases k : 0 < f1 a
    · exact o.there n k
    · exact Slots.there r (by have := hf a; omega)
  | [], _ :: _, _, _, _, h, _ | [], [], _ :: _, _, _, h, _ | _ :: _, [], _, _, _, h, _ | _ :: _, _ :: _, [], _, _, h, _ => by simp [Slots] at h
theorem Slots.len {F H : Hp} : ∀ {Γ : Ctx} {σ : St} {env : List D} {f : Fp}, Slots K F H Γ σ env f → σ.length = Γ.length ∧ env.length = Γ.length
  | [], [], [], _, h => ⟨rfl, rfl⟩
  | none :: Γ, _ :: _, _ :: _, _, h => by have := Slots.len (Γ := Γ) h; simp; omega
  | some n :: _, _ :: _, _ :: _, f, ⟨v, f1, f2, es, o, r, hf⟩ => by have := Slots.len r; simp; omega
  | [], _ :: _, _, _, h | [], [], _ :: _, _, h | _ :: _, [], _, _, h | _ :: _, _ :: _, [], _, h => by simp [Slots] at h
def Le1 : Option Nat → Option Nat → Bool
  | none, _ => true
  | some m, some n => decide (m ≤ n)
  | some _, none => false
def LeC : Ctx → Ctx → Bool
  | [], [] => true
  | a :: Γ, b :: Δ => Le1 a b && LeC Γ Δ
  | _, _ => false
theorem Slots.down {F H : Hp} : ∀ {Γ Δ : Ctx} {σ : St} {env : List D} {f : Fp}, LeC Δ Γ = true → Slots K F H Γ σ env f → ∃ g, (∀ a, g a ≤ f a) ∧ ∀ F', Fz F F' H f g → Slots K F' H Δ σ env g
  | [], [], [], [], f, _, h => ⟨f, fun _ => Nat.le_refl _, fun _ _ => h⟩
  | none :: Γ, none :: Δ, _ :: _, _ :: _, f, hl, h => Slots.down (Γ := Γ) (Δ := Δ) (by simpa [LeC, Le1] using hl) h
  | none :: _, some _ :: _, _ :: _, _ :: _, f, hl, h => by simp [LeC, Le1] at hl
  | some n :: Γ, none :: Δ, _ :: _, _ :: _, f, hl, ⟨v, f1, f2, es, o, r, hf⟩ => by
    obtain ⟨g2, l2, q2⟩ := Slots.down (Δ := Δ) (by simpa [LeC, Le1] using hl) r
    exact ⟨g2, fun a => by have := l2 a; have := hf a; omega, fun F' z => q2 F' ⟨z.up, fun a ha => z.fz a (by have := hf a; omega), z.ow⟩⟩
  | some n :: Γ, some m :: Δ, _ :: _, _ :: _, f, hl, ⟨v, f1, f2, es, o, r, hf⟩ => by
    simp only [LeC, Le1, Bool.and_eq_true, decide_eq_true_eq] at hl
    obtain ⟨g1, l1, q1⟩ := o.down n m hl.1
    obtain ⟨g2, l2, q2⟩ := Slots.down hl.2 r
    refine ⟨fun x => g1 x + g2 x, fun x => by have := l1 x; have := l2 x; have := hf x; show g1 x + g2 x ≤ _; omega, fun F' z => ⟨v, g1, g2, es, q1 F' ⟨z.up, fun x hx => z.fz x ?_, fun x hx => z.ow x ?_⟩, q2 F' ⟨z.up, fun x hx => z.fz x ?_, fun x hx => z.ow x ?_⟩, fun _ => rfl⟩⟩
    · have := l1 x; have := l2 x; have := hf x; show g1 x + g2 x < _; omega
    · show 0 < g1 x + g2 x; omega
    · have := l1 x; have := l2 x; have := hf x; show g1 x + g2 x < _; omega
    · show 0 < g1 x + g2 x; omega
  | [], _, _ :: _, _, _, _, h | [], _, [], _ :: _, _, _, h | _ :: _, _, [], _, _, _, h | _ :: _, _, _ :: _, [], _, _, h => by simp [Slots] at h
  | [], _ :: _, [], [], _, hl, _ => by simp [LeC] at hl
  | _ :: _, [], _ :: _, _ :: _, _, hl, _ => by simp [LeC] at hl
theorem Slots.focus {F H : Hp} : ∀ {Γ : Ctx} {σ : St} {env : List D} {f : Fp} {i n : Nat}, Slots K F H Γ σ env f → Γ[i]? = some (some n) → ∃ v d f1 f2, σ[i]? = some (some v) ∧ env[i]? = some d ∧ Own K F H n d v f1 ∧ (∀ b, f b = f1 b + f2 b) ∧
      (∀ F' H', Same F F' → (∀ a, 0 < f2 a → F' a = F a ∧ H' a = H a) → Slots K F' H' (Γ.set i none) σ env f2 ∧ ∀ v' d', Slots K F' H' (Γ.set i none) (σ.set i (some v')) (env.set i d') f2 ∧ ∀ n' f1', Own K F' H' n' d' v' f1' → Slots K F' H' (Γ.set i (some n')) (σ.set i (some v')) (env.set i d') (fun b => f1' b + f2 b))
  | [], [], [], _, _, _, _, hi => by simp at hi
  | none :: Γ, s :: σ, d :: env, f, 0, n, h, hi => by simp at hi
  | none :: Γ, s :: σ, d :: env, f, i + 1, n, h, hi => by
    obtain ⟨v, d', f1, f2, h1, h2, h3, h4, h5⟩ := Slots.focus (Γ := Γ) (i := i) h (by simpa using hi)
    exact ⟨v, d', f1, f2, by simpa using h1, by simpa using h2, h3, h4, fun F' H' e k => ⟨(h5 F' H' e k).1, fun v' d'' => ⟨((h5 F' H' e k).2 v' d'').1, fun n' f1' o => ((h5 F' H' e k).2 v' d'').2 n' f1' o⟩⟩⟩
  | some m :: Γ, s :: σ, d :: env, f, 0, n, ⟨v, f1, f2, es, o, r, hf⟩, hi => by
    simp at hi
    subst hi es
    exact ⟨v, d, f1, f2, rfl, rfl, o, hf, fun F' H' e k => ⟨r.mono e k, fun v' d'' => ⟨r.mono e k, fun n' f1' o' => ⟨v', f1', f2, rfl, o', r.mono e k, fun _ => rfl⟩⟩⟩⟩
  | some m :: Γ, s :: σ, d :: env, f, i + 1, n, ⟨v0, g1, g2, es, o, r, hf⟩, hi => by
    obtain ⟨v, d', f1, f2, h1, h2, h3, h4, h5⟩ := Slots.focus (i := i) r (by simpa using hi)
    refine ⟨v, d', f1, fun b => g1 b + f2 b, by simpa using h1, by simpa using h2, h3, fun b => by have := hf b; have := h4 b; show _ = f1 b + (g1 b + f2 b); omega, fun F' H' e k => ?_⟩
    have k2 : ∀ a, 0 < f2 a → F' a = F a ∧ H' a = H a := fun a ha => k a (by show 0 < g1 a + f2 a; omega)
    have ko := o.mono e m (H' := H') (fun a ha => k a (by show 0 < g1 a + f2 a; omega))
    obtain ⟨q0, q1⟩ := h5 F' H' e k2
    refine ⟨⟨v0, g1, f2, es, ko, q0, fun _ => rfl⟩, fun v' d'' => ?_⟩
    obtain ⟨q2, q3⟩ := q1 v' d''
    exact ⟨⟨v0, g1, f2, es, ko, q2, fun _ => rfl⟩, fun n' f1' o' => ⟨v0, g1, _, es, ko, q3 n' f1' o', fun b => by show f1' b + (g1 b + f2 b) = g1 b + (f1' b + f2 b); omega⟩⟩
  | [], _ :: _, _, _, _, _, h, _ | [], [], _ :: _, _, _, _, h, _ | _ :: _, [], _, _, _, _, h, _ | _ :: _, _ :: _, [], _, _, _, h, _ => by simp [Slots] at h
theorem Slots.put {F H : Hp} : ∀ {Γ : Ctx} {σ : St} {env : List D} {f : Fp} {i : Nat} {v : V} {d : D} {n : Nat} {ft : Fp}, Slots K F H Γ σ env f → i < Γ.length → Own K F H n d v ft →
      ∃ g, (∀ b, g b ≤ ft b + f b) ∧ Slots K F H (Γ.set i (some n)) (σ.set i (some v)) (env.set i d) g
  | [], [], [], _, _, _, _, _, _, _, hi, _ => by simp at hi
  | none :: Γ, s :: σ, _ :: env, f, 0, v, d, n, ft, h, hi, o => ⟨fun b => ft b + f b, fun _ => Nat.le_refl _, v, ft, f, rfl, o, h, fun _ => rfl⟩
  | some m :: Γ, s :: σ, _ :: env, f, 0, v, d, n, ft, ⟨v0, g1, g2, es, o', r, hf⟩, hi, o => ⟨fun b => ft b + g2 b, fun b => by have := hf b; show ft b + g2 b ≤ _; omega, v, ft, g2, rfl, o, r, fun _ => rfl⟩
  | none :: Γ, s :: σ, _ :: env, f, i + 1, v, d, n, ft, h, hi, o => by
    obtain ⟨g, l, q⟩ := Slots.put (Γ := Γ) (i := i) h (by simpa using hi) o
    exact ⟨g, l, q⟩
  | some m :: Γ, s :: σ, _ :: env, f, i + 1, v, d, n, ft, ⟨v0, g1, g2, es, o', r, hf⟩, hi, o => by
    obtain ⟨g, l, q⟩ := Slots.put (i := i) r (by simpa using hi) o
    exact ⟨fun b => g1 b + g b, fun b => by have := l b; have := hf b; show g1 b + g b ≤ _; omega, v0, g1, g, es, o', q, fun _ => rfl⟩
  | [], _ :: _, _, _, _, _, _, _, _, h, _, _ | [], [], _ :: _, _, _, _, _, _, _, h, _, _ | _ :: _, [], _, _, _, _, _, _, _, h, _, _ | _ :: _, _ :: _, [], _, _, _, _, _, _, h, _, _ => by simp [Slots] at h
end
end Pf

set_option Elab.async false
set_option linter.all false
set_option maxRecDepth 100000
set_option maxHeartbeats 4000000
namespace Pf
open PySem L2
structure Bs where
  H0 : Hp
  F0 : Hp
structure Ok (B : Bs) (F H : Hp) (f : Fp) : Prop where
  fh : Sub F H
  h0 : Same B.H0 H
  f0 : Same B.F0 F
  fn : ∀ a o, F a = some o → B.F0 a = some o ∨ B.H0 a = none ∨ (B.H0 a = some o ∧ ∃ xs, o = .tup xs) ∨ ∃ ps, B.H0 a = some (.tbl ps)
  one : ∀ a, f a ≤ 1
  fr : ∀ a, 0 < f a → B.H0 a = none
def Rel (K : PySem.W.Frag) (B : Bs) (Γ : Ctx) (σ : St) (env : List D) (F H : Hp) : Prop := ∃ f, Slots K F H Γ σ env f ∧ Ok B F H f
def RelT (K : PySem.W.Frag) (B : Bs) (Γ : Ctx) (σ : St) (env : List D) (F H : Hp) (n : Nat) (d : D) (v : V) : Prop :=
  ∃ f g, Slots K F H Γ σ env f ∧ Own K F H n d v g ∧ Ok B F H (fun a => g a + f a)
def Got (K : PySem.W.Frag) (F H F' H' : Hp) (n : Nat) (d : D) (v : V) : Prop := ∃ g, Own K F' H' n d v g ∧ Ok ⟨H, F⟩ F' H' g
def BwAll (P : D → V → Prop) : List D → List V → Prop
  | [], [] => True
  | d :: ds, v :: vs => P d v ∧ BwAll P ds vs
  | _, _ => False
def Bw (K : PySem.W.Frag) (F H : Hp) : Nat → D → V → Prop
  | 0, d, v => Rp K F v d
  | n + 1, .list ds, v => ∃ a vs, v = .ref a ∧ H a = some (.lst vs) ∧ BwAll (Bw K F H n) ds vs
  | n + 1, .dict kvs, v => ∃ a o vs, v = .ref a ∧ H a = some o ∧ DicO a o kvs vs ∧ BwAll (Bw K F H n) (kvs.map (·.2)) vs
  | _ + 1, .none, v => Rp K F v .none
  | _ + 1, .bool c, v => Rp K F v (.bool c)
  | _ + 1, .int i, v => Rp K F v (.int i)
  | 1, .str x, v => Rp K F v (.str x)
  | _ + 2, .str _, _ => False
  | 1, .tuple ds, v => Rp K F v (.tuple ds)
  | _ + 2, .tuple _, _ => False
section
variable {K : PySem.W.Frag} {F F' H H' : Hp} {B : Bs} {Γ Γ' : Ctx} {σ : St} {env : List D}
theorem BwAll.imp {P Q : D → V → Prop} (h : ∀ d v, P d v → Q d v) : ∀ {ds : List D} {vs : List V}, BwAll P ds vs → BwAll Q ds vs
  | [], [], _ => trivial
  | _ :: _, _ :: _, ⟨a, b⟩ => ⟨h _ _ a, b.imp h⟩
  | [], _ :: _, h => h.elim
  | _ :: _, [], h => h.elim
theorem BwAll.rp {P : D → V → Prop} (h : ∀ d v, P d v → Rp K H v d) : ∀ {ds : List D} {vs : List V}, BwAll P ds vs → RpAll K H vs ds
  | [], [], _ => .nil
  | _ :: _, _ :: _, ⟨a, b⟩ => .cons (h _ _ a) (b.rp h)
  | [], _ :: _, h => h.elim
  | _ :: _, [], h => h.elim
theorem bwAll_own {P : D → V → Fp → Prop} {Q : D → V → Prop} (h : ∀ d v f, P d v f → Q d v) : ∀ {ds : List D} {vs : List V} {f : Fp}, OwnAll P ds vs f → BwAll Q ds vs
  | [], [], _, _ => trivial
  | _ :: _, _ :: _, _, ⟨_, _, a, b, _⟩ => ⟨h _ _ _ a, bwAll_own h b⟩
  | [], _ :: _, _, h => h.elim
  | _ :: _, [], _, h => h.elim
theorem BwAll.len {P : D → V → Prop} : ∀ {ds : List D} {vs : List V}, BwAll P ds vs → vs.length = ds.length
  | [], [], _ => rfl
  | _ :: _, _ :: _, ⟨_, b⟩ => by simp [BwAll.len b]
  | [], _ :: _, h => h.elim
  | _ :: _, [], h => h.elim
theorem BwAll.get {P : D → V → Prop} : ∀ {ds : List D} {vs : List V} {i : Nat} {d : D}, BwAll P ds vs → ds[i]? = some d → ∃ v, vs[i]? = some v ∧ P d v
  | _ :: _, _ :: _, 0, _, ⟨a, _⟩, e => ⟨_, rfl, by simp at e; exact e ▸ a⟩
  | _ :: _, _ :: _, i + 1, _, ⟨_, b⟩, e => by
    obtain ⟨v, h1, h2⟩ := BwAll.get (i := i) b (by simpa using e)
    exact ⟨v, by simpa using h1, h2⟩
  | [], [], _, _, _, e => by simp at e
  | [], _ :: _, _, _, h, _ => h.elim
  | _ :: _, [], _, _, h, _ => h.elim
theorem Own.bw : ∀ (n : Nat) {d : D} {v : V} {f : Fp}, Own K F H n d v f → Bw K F H n d v
  | 0, _, _, _, ⟨r, _⟩ => r
  | n + 1, .list ds, v, f, ⟨b, vs, f2, ev, hb, hn, q, hf⟩ => ⟨b, vs, ev, hb, bwAll_own (fun d v f h => Own.bw n h) q⟩
  | n + 1, .dict kvs, v, f, ⟨b, o, ks, f2, ev, hb, hn, hk, q, hf⟩ => ⟨b, o, ks, ev, hb, hk, bwAll_own (fun d v f h => Own.bw n h) q⟩
  | _ + 1, .none, _, _, ⟨r, _⟩ | _ + 1, .bool _, _, _, ⟨r, _⟩ | _ + 1, .int _, _, _, ⟨r, _⟩ | 1, .str _, _, _, ⟨r, _⟩ | 1, .tuple _, _, _, ⟨r, _⟩ => r
  | _ + 2, .tuple _, _, _, h | _ + 2, .str _, _, _, h => h.elim
theorem Bw.mono (e : Same F F') (k : Same H H') : ∀ (n : Nat) {d : D} {v : V}, Bw K F H n d v → Bw K F' H' n d v
  | 0, _, _, r => Rp.up e r
  | n + 1, .list ds, v, ⟨a, vs, ev, h, q⟩ => ⟨a, vs, ev, k _ _ h, q.imp fun d v h => Bw.mono e k n h⟩
  | n + 1, .dict ds, v, ⟨a, o, vs, ev, h, hk, q⟩ => ⟨a, o, vs, ev, k _ _ h, hk, q.imp fun d v h => Bw.mono e k n h⟩
  | _ + 1, .none, _, r | _ + 1, .bool _, _, r | _ + 1, .int _, _, r | 1, .str _, _, r | 1, .tuple _, _, r => Rp.up e r
  | _ + 2, .tuple _, _, h | _ + 2, .str _, _, h => h.elim
theorem Bw.rp (e : Sub F H) : ∀ (n : Nat) {d : D} {v : V}, Bw K F H n d v → Rp K H v d
  | 0, _, _, r => Rp.up e r
  | n + 1, .list ds, v, ⟨a, vs, ev, h, q⟩ => by subst ev; exact .lst (SqL.of h) (q.rp fun d v h => Bw.rp e n h)
  | n + 1, .dict ds, v, ⟨a, o, vs, ev, h, hk, q⟩ => by subst ev; exact .dic h hk (q.rp fun d v h => Bw.rp e n h)
  | _ + 1, .none, _, r | _ + 1, .bool _, _, r | _ + 1, .int _, _, r | 1, .str _, _, r | 1, .tuple _, _, r => Rp.up e r
  | _ + 2, .tuple _, _, h | _ + 2, .str _, _, h => h.elim
theorem Ok.less {f g : Fp} (h : Ok B F H f) (l : ∀ a, g a ≤ f a) : Ok B F H g := ⟨h.fh, h.h0, h.f0, h.fn, fun a => Nat.le_trans (l a) (h.one a), fun a ha => h.fr a (by have := l a; omega)⟩
theorem Rel.fh (r : Rel K B Γ σ env F H) : Sub F H := r.elim fun _ h => h.2.fh
theorem RelT.rel {n : Nat} {d : D} {v : V} (r : RelT K B Γ σ env F H n d v) : Rel K B Γ σ env F H := by
  obtain ⟨f, g, s, o, k⟩ := r
  exact ⟨f, s, k.less fun a => by omega⟩
theorem RelT.bw {n : Nat} {d : D} {v : V} (r : RelT K B Γ σ env F H n d v) : Bw K F H n d v := by
  obtain ⟨f, g, s, o, k⟩ := r
  exact o.bw n
theorem Rel.t0 {d : D} {v : V} (r : Rel K B Γ σ env F H) (h : Rp K F v d) : RelT K B Γ σ env F H 0 d v := by
  obtain ⟨f, s, k⟩ := r
  exact ⟨f, fun _ => 0, s, ⟨h, fun _ => rfl⟩, k.less fun a => by show 0 + f a ≤ f a; omega⟩
theorem Rel.got {n : Nat} {d : D} {v : V} (r : Rel K B Γ σ env F H) (h : Got K F H F' H' n d v) : Same F F' ∧ Same H H' ∧ RelT K B Γ σ env F' H' n d v := by
  obtain ⟨f, s, k⟩ := r
  obtain ⟨g, o, q⟩ := h
  refine ⟨q.f0, q.h0, f, g, s.mono q.f0 (fun a ha => ?_), o, ⟨q.fh, k.h0.trans q.h0, k.f0.trans q.f0, fun a u hu => ?_, fun a => ?_, fun a ha => ?_⟩⟩
  · obtain ⟨n1, n2, n3, n4⟩ := s.there ha
    have e2 : H' a = H a := by
      cases e : H a with
      | none => exact absurd e n2
      | some u => exact q.h0.fn a u e (n4 u e).1
    refine ⟨?_, e2⟩
    cases e : F' a with
    | none => exact n1.symm
    | some u =>
      rcases q.fn a u e with z | z | ⟨z, xs, rfl⟩ | ⟨ps, z⟩
      · exact z.symm
      · exact absurd z n2
      · exact absurd z (n3 xs)
      · exact absurd rfl ((n4 _ z).1 ps)
  · rcases q.fn a u hu with z | z | ⟨z, xs, rfl⟩ | ⟨ps, z⟩
    · exact k.fn a u z
    · exact .inr (.inl (k.h0.dom a z))
    · cases e : B.H0 a with
      | none => exact .inr (.inl rfl)
      | some u2 =>
        by_cases n : NT u2
        · have z2 := (k.h0.fn a u2 e n).symm.trans z
          cases z2
          exact .inr (.inr (.inl ⟨rfl, xs, rfl⟩))
        · exact .inr (.inr (.inr (nt_not n)))
    · cases e : B.H0 a with
      | none => exact .inr (.inl rfl)
      | some u2 =>
        by_cases n : NT u2
        · have z2 := (k.h0.fn a u2 e n).symm.trans z
          exact absurd (Option.some.inj z2) (n ps)
        · exact .inr (.inr (.inr (nt_not n)))
  · have h1 := k.one a
    have h2 := q.one a
    by_cases c : 0 < g a
    · by_cases c2 : 0 < f a
      · exact absurd (q.fr a c) (s.there c2).2.1
      · show g a + f a ≤ 1; omega
    · show g a + f a ≤ 1; omega
  · by_cases c : 0 < f a
    · exact k.fr a c
    · have c3 : 0 < g a + f a := ha
      have c2 : 0 < g a := by omega
      exact k.h0.dom a (q.fr a c2)
theorem got_val {d : D} {v : V} (e : Sub F H) (h : Rp K F v d) : Got K F H F H 0 d v := ⟨fun _ => 0, ⟨h, fun _ => rfl⟩, ⟨e, Same.refl _, Same.refl _, fun _ _ q => .inl q, fun _ => Nat.zero_le _, fun _ q => absurd q (Nat.lt_irrefl _)⟩⟩
theorem same_upd {p : Addr} {o : HO} (h : H p = none) : Same H (upd H p o) := .of fun a u e => by rw [upd_ne (ne_of_none e h)]; exact e
theorem same_upd2 {p : Addr} {o : HO} (e : Sub F H) (h : H p = none) : Sub F (upd H p o) := e.up (same_upd h)
theorem none_of (e : Sub F H) {p : Addr} (h : H p = none) : F p = none := Same.free e h
theorem got_newL {p : Addr} {vs : List V} {ds : List D} (e : Sub F H) (h : H p = none) (r : RpAll K F vs ds) : Got K F H F (upd H p (.lst vs)) 1 (.list ds) (.ref p) := by
  refine ⟨fun a => if a = p then 1 else 0, ⟨p, vs, fun _ => 0, rfl, upd_same, none_of e h, ownAll_of (fun d v h => ⟨h, fun _ => rfl⟩) r, fun _ => rfl⟩, ⟨same_upd2 e h, same_upd h, Same.refl _, fun _ _ q => .inl q, fun a => ?_, fun a ha => ?_⟩⟩
  · show (if a = p then 1 else 0) ≤ 1; split <;> omega
  · have ha : 0 < (if a = p then 1 else 0) := ha
    by_cases c : a = p
    · rw [c]; exact h
    · rw [if_neg c] at ha; omega
theorem same_upd3 {p : Addr} {o : HO} (e : Sub F H) (h : H p = none) (n : NT o := by first | assumption | (intro ps z; cases z; done) | (intro ps z; unfold LamX.CodeO at z; cases z; done) | exact DicO.nt (by assumption) | exact DicO.nc (by assumption) | exact fun _ => dn_nc | (intro ps z; unfold DN at z; cases z; done) | fail) : Sub (upd F p o) (upd H p o) := ⟨⟨fun a u q m => by
  by_cases c : a = p
  · subst c; rw [upd_same] at q ⊢; exact q
  · rw [upd_ne c] at q ⊢; exact e.st a u q m, fun a q => by
  by_cases c : a = p
  · subst c; rw [upd_same] at q; cases q
  · rw [upd_ne c] at q ⊢; exact e.dom a q, fun _ => (same_upd h).tb e.th⟩, (same_upd h).tb e.th⟩
theorem got_newT {p : Addr} {vs : List V} {ds : List D} (e : Sub F H) (h : H p = none) (r : RpAll K F vs ds) : Got K F H (upd F p (.tup vs)) (upd H p (.tup vs)) 0 (.tuple ds) (.ref p) := by
  refine ⟨fun _ => 0, ⟨.tup upd_same (r.up (same_upd (none_of e h))), fun _ => rfl⟩, ⟨same_upd3 e h, same_upd h, same_upd (none_of e h), fun a u q => ?_, fun _ => Nat.zero_le _, fun _ q => absurd q (Nat.lt_irrefl _)⟩⟩
  by_cases c : a = p
  · subst c; exact .inr (.inl h)
  · rw [upd_ne c] at q; exact .inl q
theorem fz_mk {f g : Fp} (h1 : ∀ a, 0 < f a → F a = none) (l : ∀ a, g a ≤ f a) (o : ∀ a, f a ≤ 1) : Fz F (fun a => if g a < f a then H a else F a) H f g := by
  refine ⟨.of fun a u q => ?_, fun a ha => ?_, fun a ha => ?_⟩
  · show (if g a < f a then H a else F a) = _
    rw [if_neg]
    · exact q
    · intro c
      have := h1 a (by omega)
      rw [this] at q; cases q
  · show (if g a < f a then H a else F a) = _
    rw [if_pos ha]
  · show (if g a < f a then H a else F a) = _
    have := o a
    have := l a
    rw [if_neg (by omega)]
    exact h1 a (by omega)
theorem Ok.fz {f g : Fp} (k : Ok B F H f) (h1 : ∀ a, 0 < f a → F a = none) (l : ∀ a, g a ≤ f a) : Ok B (fun a => if g a < f a then H a else F a) H g := by
  have z := fz_mk (H := H) h1 l k.one
  refine ⟨⟨⟨fun a u q n => ?_, fun a q => ?_, fun _ => k.fh.th⟩, k.fh.th⟩, k.h0, k.f0.trans z.up, fun a u q => ?_, fun a => Nat.le_trans (l a) (k.one a), fun a ha => k.fr a (by have := l a; omega)⟩
  · have q : (if g a < f a then H a else F a) = some u := q
    split at q
    · exact q
    · exact k.fh.st a u q n
  · show (if g a < f a then H a else F a) = none
    split
    · exact q
    · exact k.fh.dom a q
  · have q : (if g a < f a then H a else F a) = some u := q
    split at q
    · rename_i c
      exact .inr (.inl (k.fr a (by omega)))
    · exact k.fn a u q
theorem Rel.down (r : Rel K B Γ σ env F H) (l : LeC Γ' Γ = true) : ∃ F', Same F F' ∧ Rel K B Γ' σ env F' H := by
  obtain ⟨f, s, k⟩ := r
  obtain ⟨g, lg, q⟩ := s.down l
  have h1 : ∀ a, 0 < f a → F a = none := fun a ha => (s.there ha).1
  have z := fz_mk (H := H) h1 lg k.one
  exact ⟨_, z.up, g, q _ z, k.fz h1 lg⟩
theorem RelT.down {n m : Nat} {d : D} {v : V} (r : RelT K B Γ σ env F H n d v) (l : LeC Γ' Γ = true) (hm : m ≤ n) : ∃ F', Same F F' ∧ RelT K B Γ' σ env F' H m d v := by
  obtain ⟨f, f2, s, o, k⟩ := r
  obtain ⟨g, lg, q⟩ := s.down l
  obtain ⟨g2, lg2, q2⟩ := o.down n m hm
  have h1 : ∀ a, 0 < f2 a + f a → F a = none := fun a ha => by
    by_cases c : 0 < f a
    · exact (s.there c).1
    · exact (o.there n (by omega)).1
  have lt : ∀ a, g2 a + g a ≤ f2 a + f a := fun a => by have := lg a; have := lg2 a; omega
  have z := fz_mk (f := fun a => f2 a + f a) (g := fun a => g2 a + g a) (H := H) h1 lt k.one
  refine ⟨_, z.up, g, g2, q _ ⟨z.up, fun a ha => z.fz a ?_, fun a ha => z.ow a ?_⟩, q2 _ ⟨z.up, fun a ha => z.fz a ?_, fun a ha => z.ow a ?_⟩, k.fz h1 lt⟩
  · have := lg a; have := lg2 a; show g2 a + g a < f2 a + f a; omega
  · show 0 < g2 a + g a; omega
  · have := lg a; have := lg2 a; show g2 a + g a < f2 a + f a; omega
  · show 0 < g2 a + g a; omega
theorem Got.down {n m : Nat} {d : D} {v : V} (h : Got K F H F' H' n d v) (hm : m ≤ n) : ∃ F2, Same F' F2 ∧ Got K F H F2 H' m d v := by
  obtain ⟨f, o, k⟩ := h
  obtain ⟨g, lg, q⟩ := o.down n m hm
  have h1 : ∀ a, 0 < f a → F' a = none := fun a ha => (o.there n ha).1
  have z := fz_mk (H := H') h1 lg k.one
  exact ⟨_, z.up, g, q _ z, k.fz h1 lg⟩
end

abbrev EF := List D → Option D
abbrev TF := List D → Option Bool
abbrev AF := List D → Option (List D)
def SE (X : Cx) (Γ : Ctx) (e : Expr) (f : EF) (n : Nat) (Γ' : Ctx) : Prop :=
  ∃ t : TE, PE X e t ∧ ∀ (B : Bs) (σ : St) (env : List D) (F H : Hp) (d : D) (Q : VK), Rel X.K B Γ σ env F H → f env = some d →
    (∀ v F' H', Same F F' → Same H H' → RelT X.K B Γ' σ env F' H' n d v → Q v H') → t σ H Q
def SB (X : Cx) (Γ : Ctx) (e : Expr) (f : EF) (n : Nat) (Γ' : Ctx) : Prop :=
  ∃ t : TE, PE X e t ∧ ∀ (B : Bs) (σ : St) (env : List D) (F H : Hp) (d : D) (Q : VK), Rel X.K B Γ σ env F H → f env = some d →
    (∀ v F' H', Same F F' → Same H H' → Rel X.K B Γ' σ env F' H' → Bw X.K F' H' n d v → Q v H') → t σ H Q
def STs (X : Cx) (Γ : Ctx) (e : Expr) (f : TF) (Γ' : Ctx) : Prop :=
  ∃ t : TT, PT X e t ∧ ∀ (B : Bs) (σ : St) (env : List D) (F H : Hp) (b : Bool) (Q : Bool → Hp → Prop), Rel X.K B Γ σ env F H → f env = some b →
    (∀ F' H', Same F F' → Same H H' → Rel X.K B Γ' σ env F' H' → Q b H') → t σ H Q
def STw (X : Cx) (Γ : Ctx) (e : Expr) (f : TF) (Γ' : Ctx) : Prop :=
  ∃ t : TT, PW X e t ∧ ∀ (B : Bs) (σ : St) (env : List D) (F H : Hp) (b : Bool) (Q : Bool → Hp → Prop), Rel X.K B Γ σ env F H → f env = some b →
    (∀ F' H', Same F F' → Same H H' → Rel X.K B Γ' σ env F' H' → Q b H') → t σ H Q
def BwL (K : PySem.W.Frag) (F H : Hp) : List Nat → List D → List V → Prop
  | [], [], [] => True
  | n :: ns, d :: ds, v :: vs => Bw K F H n d v ∧ BwL K F H ns ds vs
  | _, _, _ => False
def SA (X : Cx) (Γ : Ctx) (es : List Expr) (f : AF) (ns : List Nat) (Γ' : Ctx) : Prop :=
  ∃ t : TA, PA X es t ∧ ∀ (B : Bs) (σ : St) (env : List D) (F H : Hp) (ds : List D) (Q : List V → Hp → Prop), Rel X.K B Γ σ env F H → f env = some ds →
    (∀ vs F' H', Same F F' → Same H H' → Rel X.K B Γ' σ env F' H' → BwL X.K F' H' ns ds vs → Q vs H') → t σ H Q
section
variable {X : Cx} {Γ Γ1 Γ2 Γ' : Ctx} {K : PySem.W.Frag} {F F' H H' : Hp}
theorem BwL.mono (e : Same F F') (k : Same H H') : ∀ {ns : List Nat} {ds : List D} {vs : List V}, BwL K F H ns ds vs → BwL K F' H' ns ds vs
  | [], [], [], _ => trivial
  | n :: ns, d :: ds, v :: vs, ⟨a, b⟩ => ⟨a.mono e k n, b.mono e k⟩
  | [], [], _ :: _, h | [], _ :: _, _, h | _ :: _, [], _, h | _ :: _, _ :: _, [], h => by simp [BwL] at h
theorem BwL.rp0 : ∀ {ns : List Nat} {ds : List D} {vs : List V}, (ns.all (· == 0)) = true → BwL K F H ns ds vs → RpAll K F vs ds
  | [], [], [], _, _ => .nil
  | n :: ns, d :: ds, v :: vs, hn, ⟨a, b⟩ => by
    simp only [List.all_cons, Bool.and_eq_true, beq_iff_eq] at hn
    obtain ⟨rfl, hn⟩ := hn
    exact .cons a (BwL.rp0 hn b)
  | [], [], _ :: _, _, h | [], _ :: _, _, _, h | _ :: _, [], _, _, h | _ :: _, _ :: _, [], _, h => by simp [BwL] at h
theorem SE.sb {e : Expr} {f : EF} {n : Nat} (h : SE X Γ e f n Γ') : SB X Γ e f n Γ' := by
  obtain ⟨t, p, q⟩ := h
  exact ⟨t, p, fun B σ env F H d Q r e k => q B σ env F H d Q r e fun v F' H' s1 s2 w => k v F' H' s1 s2 w.rel w.bw⟩
theorem SB.se {e : Expr} {f : EF} (h : SB X Γ e f 0 Γ') : SE X Γ e f 0 Γ' := by
  obtain ⟨t, p, q⟩ := h
  exact ⟨t, p, fun B σ env F H d Q r e k => q B σ env F H d Q r e fun v F' H' s1 s2 w b => k v F' H' s1 s2 (w.t0 b)⟩
theorem SE.sub {e : Expr} {f : EF} {n m : Nat} (h : SE X Γ e f n Γ1) (l : LeC Γ' Γ1 = true) (hm : m ≤ n) : SE X Γ e f m Γ' := by
  obtain ⟨t, p, q⟩ := h
  refine ⟨t, p, fun B σ env F H d Q r e k => q B σ env F H d Q r e fun v F' H' s1 s2 w => ?_⟩
  obtain ⟨F2, u, w2⟩ := w.down l hm
  exact k v F2 H' (s1.trans u) s2 w2
theorem STs.sub {e : Expr} {f : TF} (h : STs X Γ e f Γ1) (l : LeC Γ' Γ1 = true) : STs X Γ e f Γ' := by
  obtain ⟨t, p, q⟩ := h
  refine ⟨t, p, fun B σ env F H d Q r e k => q B σ env F H d Q r e fun F' H' s1 s2 w => ?_⟩
  obtain ⟨F2, u, w2⟩ := w.down l
  exact k F2 H' (s1.trans u) s2 w2
theorem STw.ts {e : Expr} {f : TF} (h : STw X Γ e f Γ') : STs X Γ e f Γ' := by
  obtain ⟨t, p, q⟩ := h
  exact ⟨t, p.pt, q⟩

def eV (i : Nat) : EF := fun env => env[i]?
def eC (d : D) : EF := fun _ => some d
theorem Rel.slot {B : Bs} {σ : St} {env : List D} {i n : Nat} (r : Rel K B Γ σ env F H) (hi : Γ[i]? = some (some n)) : ∃ v d, σ[i]? = some (some v) ∧ env[i]? = some d ∧ Bw K F H n d v ∧ RelT K B (Γ.set i none) σ env F H n d v := by
  obtain ⟨f, s, k⟩ := r
  obtain ⟨v, d, f1, f2, h1, h2, h3, h4, h5⟩ := s.focus hi
  refine ⟨v, d, h1, h2, h3.bw n, f2, f1, (h5 F H (Same.refl _) (fun _ _ => ⟨rfl, rfl⟩)).1, h3, k.less fun a => by have := h4 a; show f1 a + f2 a ≤ _; omega⟩
theorem sb_var (i : Nat) {x : Str} {pos : Pos} {n : Nat} (hi : Γ[i]? = some (some n)) (hN : X.N[i]? = some x := by rfl) (hv : Vis X.env.scope x := by first | exact Or.inl rfl | exact Or.inr (Or.inl rfl) | exact Or.inr (Or.inr rfl)) (hd : (x == ("__debug__" : Str)) = false := by decide)
    (hcd : (x == ("__classdict__" : Str)) = false := by decide) : SB X Γ (.Name x pos) (eV i) n Γ := by
  refine ⟨_, pe_var hN hv hd hcd, fun B σ env F H d Q r e k => ?_⟩
  obtain ⟨v, d', h1, h2, h3, h4⟩ := r.slot hi
  rw [eV, h2] at e
  cases e
  exact ⟨v, h1, k v F H (Same.refl _) (Same.refl _) r h3⟩
theorem se_mv (i : Nat) {x : Str} {pos : Pos} {n : Nat} (hi : Γ[i]? = some (some n)) (hN : X.N[i]? = some x := by rfl) (hv : Vis X.env.scope x := by first | exact Or.inl rfl | exact Or.inr (Or.inl rfl) | exact Or.inr (Or.inr rfl)) (hd : (x == ("__debug__" : Str)) = false := by decide)
    (hcd : (x == ("__classdict__" : Str)) = false := by decide) : SE X Γ (.Name x pos) (eV i) n (Γ.set i none) := by
  refine ⟨_, pe_var hN hv hd hcd, fun B σ env F H d Q r e k => ?_⟩
  obtain ⟨v, d', h1, h2, h3, h4⟩ := r.slot hi
  rw [eV, h2] at e
  cases e
  exact ⟨v, h1, k v F H (Same.refl _) (Same.refl _) h4⟩
theorem leC_refl : ∀ Γ : Ctx, LeC Γ Γ = true
  | [] => rfl
  | none :: Γ => by simp [LeC, Le1, leC_refl Γ]
  | some n :: Γ => by simp [LeC, Le1, leC_refl Γ]
theorem leC_set : ∀ {Γ : Ctx} {i n m : Nat}, Γ[i]? = some (some n) → m ≤ n → LeC (Γ.set i (some m)) Γ = true
  | [], _, _, _, h, _ => by simp at h
  | _ :: Γ, 0, n, m, h, l => by simp at h; subst h; simp [LeC, Le1, l, leC_refl Γ]
  | none :: Γ, i + 1, n, m, h, l => by simp [LeC, Le1, leC_set (Γ := Γ) (i := i) (by simpa using h) l]
  | some _ :: Γ, i + 1, n, m, h, l => by simp [LeC, Le1, leC_set (Γ := Γ) (i := i) (by simpa using h) l]
theorem get_set_some {Γ : Ctx} {i n m : Nat} (h : Γ[i]? = some (some n)) : (Γ.set i (some m))[i]? = some (some m) := by
  have := (List.getElem?_eq_some_iff.mp h).1
  simp [List.getElem?_set, this]
theorem se_fz (i : Nat) {x : Str} {pos : Pos} {n : Nat} (hi : Γ[i]? = some (some n)) (hN : X.N[i]? = some x := by rfl) (hv : Vis X.env.scope x := by first | exact Or.inl rfl | exact Or.inr (Or.inl rfl) | exact Or.inr (Or.inr rfl)) (hd : (x == ("__debug__" : Str)) = false := by decide)
    (hcd : (x == ("__classdict__" : Str)) = false := by decide) : SE X Γ (.Name x pos) (eV i) 0 (Γ.set i (some 0)) := by
  refine ⟨_, pe_var hN hv hd hcd, fun B σ env F H d Q r e k => ?_⟩
  obtain ⟨F2, u, r2⟩ := r.down (leC_set (m := 0) hi (Nat.zero_le _))
  obtain ⟨v, d', h1, h2, h3, h4⟩ := r2.slot (get_set_some hi)
  rw [eV, h2] at e
  cases e
  exact ⟨v, h1, k v F2 H u (Same.refl _) (r2.t0 h3)⟩
theorem se_c {e : Expr} {v : V} {d : D} (p : PE X e (tC v)) (h : ∀ K F, Rp K F v d) : SE X Γ e (eC d) 0 Γ :=
  ⟨_, p, fun B σ env F H d' Q r e k => by
    cases e
    exact k v F H (Same.refl _) (Same.refl _) (r.t0 (h _ _))⟩
theorem se_int {i : Int} {j pos} : SE X Γ (.Constant (.int i) j pos) (eC (.int i)) 0 Γ := se_c pe_int fun _ _ => .int i
theorem se_bl {b : Bool} {j pos} : SE X Γ (.Constant (.bool b) j pos) (eC (.bool b)) 0 Γ := se_c pe_bl fun _ _ => .bl b
theorem se_non {j pos} : SE X Γ (.Constant .none j pos) (eC .none) 0 Γ := se_c pe_non fun _ _ => .non
theorem se_str {x : Str} {j pos} : SE X Γ (.Constant (.str x) j pos) (eC (.str x)) 0 Γ := se_c pe_str fun _ _ => .str x
theorem se_glob {x : Str} {v : V} {u : Value} {d : D} {pos : Pos} (hg : Gl X x) (hm : X.mg x = some u) (r : RelV v u) (h : ∀ F, Rp X.K F v d) (hd : (x == ("__debug__" : Str)) = false := by decide) : SE X Γ (.Name x pos) (eC d) 0 Γ :=
  ⟨_, pe_glob hg hm r hd, fun B σ env F H d' Q r e k => by
    cases e
    exact k v F H (Same.refl _) (Same.refl _) (r.t0 (h _))⟩

def S2 (K : PySem.W.Frag) (r : R2) (na nb n : Nat) (g : D → D → Option D) : Prop := ∀ (F H : Hp) (x y : V) (da db d : D) (Q : VK), Sub F H → Bw K F H na da x → Bw K F H nb db y → g da db = some d →
  (∀ v F' H', Got K F H F' H' n d v → Q v H') → r x y H Q
def S1 (K : PySem.W.Frag) (r : V → Hp → VK → Prop) (na n : Nat) (g : D → Option D) : Prop := ∀ (F H : Hp) (x : V) (da d : D) (Q : VK), Sub F H → Bw K F H na da x → g da = some d →
  (∀ v F' H', Got K F H F' H' n d v → Q v H') → r x H Q
def SL (K : PySem.W.Frag) (r : List V → Hp → VK → Prop) (ns : List Nat) (n : Nat) (g : List D → Option D) : Prop := ∀ (F H : Hp) (xs : List V) (ds : List D) (d : D) (Q : VK), Sub F H → BwL K F H ns ds xs → g ds = some d →
  (∀ v F' H', Got K F H F' H' n d v → Q v H') → r xs H Q
def e2 (g : D → D → Option D) (fa fb : EF) : EF := fun env => (fa env).bind fun x => (fb env).bind fun y => g x y
def e1 (g : D → Option D) (fa : EF) : EF := fun env => (fa env).bind g
def eL (g : List D → Option D) (fs : AF) : EF := fun env => (fs env).bind g
theorem bind2 {fa fb : EF} {g : D → D → Option D} {env : List D} {d : D} (h : e2 g fa fb env = some d) : ∃ x y, fa env = some x ∧ fb env = some y ∧ g x y = some d := by
  unfold e2 at h
  obtain ⟨x, hx, h⟩ := Option.bind_eq_some_iff.mp h
  obtain ⟨y, hy, h⟩ := Option.bind_eq_some_iff.mp h
  exact ⟨x, y, hx, hy, h⟩
theorem se_tOp {a b e : Expr} {fa fb : EF} {na nb n : Nat} {r : R2} {g : D → D → Option D} (hs : S2 X.K r na nb n g) (ha : SB X Γ a fa na Γ1) (hb : SB X Γ1 b fb nb Γ2) (hp : ∀ ta tb, PE X a ta → PE X b tb → PE X e (tOp r ta tb)) :
    SE X Γ e (e2 g fa fb) n Γ2 := by
  obtain ⟨ta, pa, qa⟩ := ha
  obtain ⟨tb, pb, qb⟩ := hb
  refine ⟨_, hp _ _ pa pb, fun B σ env F H d Q rr e k => ?_⟩
  obtain ⟨x, y, hx, hy, hg⟩ := bind2 e
  refine qa B σ env F H x _ rr hx fun v F1 H1 s1 t1 r1 b1 => ?_
  refine qb B σ env F1 H1 y _ r1 hy fun u F2 H2 s2 t2 r2 b2 => ?_
  refine hs F2 H2 v u x y d Q r2.fh (b1.mono s2 t2 na) b2 hg fun w F3 H3 got => ?_
  obtain ⟨s3, t3, r3⟩ := r2.got got
  exact k w F3 H3 ((s1.trans s2).trans s3) ((t1.trans t2).trans t3) r3
theorem se_op {a b : Expr} {op : Operator} {pos : Pos} {fa fb : EF} {na nb n : Nat} {r : R2} {g : D → D → Option D} (ho : OpR X (binaryOp op) r) (hs : S2 X.K r na nb n g) (ha : SB X Γ a fa na Γ1) (hb : SB X Γ1 b fb nb Γ2) :
    SE X Γ (.BinOp a op b pos) (e2 g fa fb) n Γ2 := se_tOp hs ha hb fun _ _ pa pb => pe_op ho pa pb
theorem se_cmp {a b : Expr} {op : CmpOp} {pos : Pos} {fa fb : EF} {na nb n : Nat} {r : R2} {g : D → D → Option D} (ho : OpR X (compareOp op) r) (hs : S2 X.K r na nb n g) (ha : SB X Γ a fa na Γ1) (hb : SB X Γ1 b fb nb Γ2) (hm : behindInMarks op b = false := by rfl) :
    SE X Γ (.Compare a [op] [b] pos) (e2 g fa fb) n Γ2 := se_tOp hs ha hb fun _ _ pa pb => pe_cmpR ho pa pb hm
theorem se_ix {a b : Expr} {pos : Pos} {fa fb : EF} {na nb n : Nat} {r : R2} {g : D → D → Option D} (ho : IxR X r) (hs : S2 X.K r na nb n g) (ha : SB X Γ a fa na Γ1) (hb : SB X Γ1 b fb nb Γ2) (hp : PlainIx b := by exact fun _ _ => rfl) :
    SE X Γ (.Subscript a b pos) (e2 g fa fb) n Γ2 := se_tOp hs ha hb fun _ _ pa pb => pe_ix ho pa pb hp
theorem se_un {a : Expr} {op : UnaryOp} {pos : Pos} {fa : EF} {na n : Nat} {r : V → Hp → VK → Prop} {g : D → Option D} (ho : UnR X (unaryOp op) r) (hs : S1 X.K r na n g) (ha : SB X Γ a fa na Γ1) : SE X Γ (.UnaryOp op a pos) (e1 g fa) n Γ1 := by
  obtain ⟨ta, pa, qa⟩ := ha
  refine ⟨_, pe_un ho pa, fun B σ env F H d Q rr e k => ?_⟩
  obtain ⟨x, hx, hg⟩ := Option.bind_eq_some_iff.mp e
  refine qa B σ env F H x _ rr hx fun v F1 H1 s1 t1 r1 b1 => ?_
  refine hs F1 H1 v x d Q r1.fh b1 hg fun w F3 H3 got => ?_
  obtain ⟨s3, t3, r3⟩ := r1.got got
  exact k w F3 H3 (s1.trans s3) (t1.trans t3) r3

def aN : AF := fun _ => some []
def aC (fa : EF) (fs : AF) : AF := fun env => (fa env).bind fun x => (fs env).bind fun xs => some (x :: xs)
theorem sa_nil : SA X Γ [] aN [] Γ := ⟨_, pa_nil, fun B σ env F H ds Q r e k => by
  cases e
  exact k [] F H (Same.refl _) (Same.refl _) r trivial⟩
theorem sa_cons {a : Expr} {es : List Expr} {fa : EF} {fs : AF} {n : Nat} {ns : List Nat} (ha : SB X Γ a fa n Γ1) (hs : SA X Γ1 es fs ns Γ2) (he : starEach (a :: es) X.env = (false, eval a X.env) :: starEach es X.env := by rfl) :
    SA X Γ (a :: es) (aC fa fs) (n :: ns) Γ2 := by
  obtain ⟨ta, pa, qa⟩ := ha
  obtain ⟨tb, pb, qb⟩ := hs
  refine ⟨_, pa_cons pa pb he, fun B σ env F H ds Q rr e k => ?_⟩
  obtain ⟨x, hx, e⟩ := Option.bind_eq_some_iff.mp e
  obtain ⟨xs, hxs, e⟩ := Option.bind_eq_some_iff.mp e
  cases e
  refine qa B σ env F H x _ rr hx fun v F1 H1 s1 t1 r1 b1 => ?_
  refine qb B σ env F1 H1 xs _ r1 hxs fun us F2 H2 s2 t2 r2 b2 => ?_
  exact k (v :: us) F2 H2 (s1.trans s2) (t1.trans t2) r2 ⟨b1.mono s2 t2 n, b2⟩
def eTup (fs : AF) : EF := fun env => (fs env).bind fun ds => if ds.length ≤ 16777216 then some (.tuple ds) else none
def eLst (fs : AF) : EF := fun env => (fs env).bind fun ds => if ds.length ≤ 16777216 then some (.list ds) else none
theorem szLine {n : Nat} (h : n ≤ 16777216) : n ≤ sizeLine := by rw [sizeLine_eq]; exact h
theorem se_tup {es : List Expr} {fs : AF} {ns : List Nat} {x1} {pos : Pos} (hs : SA X Γ es fs ns Γ1) (hn : (ns.all (· == 0)) = true := by rfl) : SE X Γ (.Tuple es x1 pos) (eTup fs) 0 Γ1 := by
  obtain ⟨ta, pa, qa⟩ := hs
  refine ⟨_, pe_tup pa, fun B σ env F H d Q rr e k => ?_⟩
  obtain ⟨ds, hx, e⟩ := Option.bind_eq_some_iff.mp e
  split at e
  · rename_i hz
    cases e
    refine qa B σ env F H ds _ rr hx fun vs F1 H1 s1 t1 r1 b1 => ?_
    have rp := b1.rp0 hn
    refine ⟨by rw [rp.length]; exact szLine hz, fun p hp => ?_⟩
    obtain ⟨s3, t3, r3⟩ := r1.got (got_newT r1.fh hp rp)
    exact k _ _ _ (s1.trans s3) (t1.trans t3) r3
  · cases e
theorem se_lst {es : List Expr} {fs : AF} {ns : List Nat} {pos : Pos} (hs : SA X Γ es fs ns Γ1) (hn : (ns.all (· == 0)) = true := by rfl) : SE X Γ (.List es pos) (eLst fs) 1 Γ1 := by
  obtain ⟨ta, pa, qa⟩ := hs
  refine ⟨_, pe_lst pa, fun B σ env F H d Q rr e k => ?_⟩
  obtain ⟨ds, hx, e⟩ := Option.bind_eq_some_iff.mp e
  split at e
  · rename_i hz
    cases e
    refine qa B σ env F H ds _ rr hx fun vs F1 H1 s1 t1 r1 b1 => ?_
    have rp := b1.rp0 hn
    refine ⟨by rw [rp.length]; exact szLine hz, fun p hp => ?_⟩
    obtain ⟨s3, t3, r3⟩ := r1.got (got_newL r1.fh hp rp)
    exact k _ _ _ (s1.trans s3) (t1.trans t3) r3
  · cases e
def Pure (K : PySem.W.Frag) (m n : Nat) (f : List D → Option D) : Sp := fun vs H Q _ => ∃ F ds d, Sub F H ∧ vs.length = m ∧ RpAll K F vs ds ∧ f ds = some d ∧ ∀ v F' H', Got K F H F' H' n d v → Q v H'
theorem se_call {k : Nat} {f : Addr} {fd : FuncData} {ps : List Str} {x : Str} {p pos : Pos} {e : Expr} {es : List Expr} {fs : AF} {ns : List Nat} {m n : Nat} {g : List D → Option D}
    (G : FnOk X.prog X.w X.K X.mg X.base CX0 k f fd ps (Pure X.K m n g)) (hr : Room k X.A) (hg : Gl X x) (hm : X.mg x = some (.ref f)) (hk : PySem.W.keepIn X.K (.ref f) = true) (hb : Binds X.K fd ps [])
    (ha : SA X Γ (e :: es) fs ns Γ1) (hn : (ns.all (· == 0)) = true := by rfl) (hl : ns.length = m := by rfl) (hdb : (x == ("__debug__" : Str)) = false := by decide) (he : starEach (e :: es) X.env = (false, eval e X.env) :: starEach es X.env := by rfl) (hpl : (backTo pos (starEach es X.env)).any (·.1) = false := by rfl) :
    SE X Γ (.Call (.Name x p) (e :: es) [] pos) (eL g fs) n Γ1 := by
  obtain ⟨ta, pa, qa⟩ := ha
  refine ⟨_, pe_call G hr hg hm hk hb .nil pass0 pa hdb he hpl, fun B σ env F H d Q rr e' k => ?_⟩
  obtain ⟨ds, hx, hgd⟩ := Option.bind_eq_some_iff.mp e'
  refine qa B σ env F H ds _ rr hx fun vs F1 H1 s1 t1 r1 b1 => ?_
  have len : ∀ {ns : List Nat} {ds : List D} {vs : List V}, BwL X.K F1 H1 ns ds vs → vs.length = ns.length := by
    intro ns
    induction ns with
    | nil => intro ds vs h; cases ds <;> cases vs <;> simp [BwL] at h ⊢
    | cons n ns ih => intro ds vs h; cases ds <;> cases vs <;> simp [BwL] at h ⊢; exact ih h.2
  refine ⟨F1, ds, d, r1.fh, by simpa using (len b1).trans hl, by simpa using b1.rp0 hn, hgd, fun v F2 H2 got => ?_⟩
  obtain ⟨s3, t3, r3⟩ := r1.got got
  exact k _ _ _ (s1.trans s3) (t1.trans t3) r3
theorem se_tCB {e : Expr} {es : List Expr} {r : List V → Hp → VK → Prop} {fs : AF} {ns : List Nat} {n : Nat} {g : List D → Option D} (hs : SL X.K r ns n g) (ha : SA X Γ es fs ns Γ1) (hp : ∀ t, PA X es t → PE X e (tCB r t)) : SE X Γ e (eL g fs) n Γ1 := by
  obtain ⟨ta, pa, qa⟩ := ha
  refine ⟨_, hp _ pa, fun B σ env F H d Q rr e' k => ?_⟩
  obtain ⟨ds, hx, hgd⟩ := Option.bind_eq_some_iff.mp e'
  refine qa B σ env F H ds _ rr hx fun vs F1 H1 s1 t1 r1 b1 => ?_
  refine hs F1 H1 vs ds d Q r1.fh b1 hgd fun w F3 H3 got => ?_
  obtain ⟨s3, t3, r3⟩ := r1.got got
  exact k w F3 H3 (s1.trans s3) (t1.trans t3) r3
theorem se_callB {x : Str} {p pos : Pos} {e : Expr} {es : List Expr} {id : String} {r : List V → Hp → VK → Prop} {fs : AF} {ns : List Nat} {n : Nat} {g : List D → Option D} (hc : CallR X (.builtin id) r) (hs : SL X.K r ns n g) (hg : Gl X x) (hm : X.mg x = none) (hv : bootBuiltins x = some (.builtin id))
    (ha : SA X Γ (e :: es) fs ns Γ1) (hn : x ≠ "__name__" := by decide) (hdb : (x == ("__debug__" : Str)) = false := by decide) (he : starEach (e :: es) X.env = (false, eval e X.env) :: starEach es X.env := by rfl) (hpl : (backTo pos (starEach es X.env)).any (·.1) = false := by rfl) :
    SE X Γ (.Call (.Name x p) (e :: es) [] pos) (eL g fs) n Γ1 := se_tCB hs ha fun _ pa => pe_callB hc hg hm hv pa hn hdb he hpl
theorem se_callTy {x : Str} {p pos : Pos} {e : Expr} {es : List Expr} {T : String} {r : List V → Hp → VK → Prop} {fs : AF} {ns : List Nat} {n : Nat} {g : List D → Option D} (hc : CallR X (.type T) r) (hs : SL X.K r ns n g) (hg : Gl X x) (hm : X.mg x = none) (hv : bootBuiltins x = some (.type T))
    (ha : SA X Γ (e :: es) fs ns Γ1) (hn : x ≠ "__name__" := by decide) (hdb : (x == ("__debug__" : Str)) = false := by decide) (he : starEach (e :: es) X.env = (false, eval e X.env) :: starEach es X.env := by rfl) (hpl : (backTo pos (starEach es X.env)).any (·.1) = false := by rfl) :
    SE X Γ (.Call (.Name x p) (e :: es) [] pos) (eL g fs) n Γ1 := se_tCB hs ha fun _ pa => pe_callTy hc hg hm hv pa hn hdb he hpl

def eIf (c : TF) (fa fb : EF) : EF := fun env => (c env).bind fun b => if b = true then fa env else fb env
theorem se_if {c a b : Expr} {pos : Pos} {fc : TF} {fa fb : EF} {n : Nat} (hc : STs X Γ c fc Γ1) (ha : SE X Γ1 a fa n Γ2) (hb : SE X Γ1 b fb n Γ2) : SE X Γ (.IfExp c a b pos) (eIf fc fa fb) n Γ2 := by
  obtain ⟨tc, pc, qc⟩ := hc
  obtain ⟨ta, pa, qa⟩ := ha
  obtain ⟨tb, pb, qb⟩ := hb
  refine ⟨_, pe_ifExp pc pa pb, fun B σ env F H d Q rr e k => ?_⟩
  obtain ⟨b, hx, e⟩ := Option.bind_eq_some_iff.mp e
  refine qc B σ env F H b _ rr hx fun F1 H1 s1 t1 r1 => ?_
  cases b with
  | true => exact qa B σ env F1 H1 d Q r1 (by simpa using e) fun v F2 H2 s2 t2 r2 => k v F2 H2 (s1.trans s2) (t1.trans t2) r2
  | false => exact qb B σ env F1 H1 d Q r1 (by simpa using e) fun v F2 H2 s2 t2 r2 => k v F2 H2 (s1.trans s2) (t1.trans t2) r2
def bo : D → Option Bool
  | .bool b => some b
  | _ => none
def tV (f : EF) : TF := fun env => (f env).bind bo
theorem Bw.bo {n : Nat} {d : D} {v : V} {b : Bool} (h : Bw K F H n d v) (e : bo d = some b) : v = .bl b := by
  cases d with
  | bool c =>
    have e : c = b := by injection e
    subst e
    cases n with
    | zero => cases h; rfl
    | succ n =>
      have h : Rp K F v (.bool c) := h
      cases h
      rfl
  | _ => exact absurd e (by simp [Pf.bo])
theorem st_cmp {a b : Expr} {op : CmpOp} {pos : Pos} {fa fb : EF} {na nb n : Nat} {r : R2} {g : D → D → Option D} (ho : OpR X (compareOp op) r) (hs : S2 X.K r na nb n g) (ha : SB X Γ a fa na Γ1) (hb : SB X Γ1 b fb nb Γ2) (hm : behindInMarks op b = false := by rfl) :
    STs X Γ (.Compare a [op] [b] pos) (tV (e2 g fa fb)) Γ2 := by
  obtain ⟨ta, pa, qa⟩ := ha
  obtain ⟨tb, pb, qb⟩ := hb
  refine ⟨_, pt_cmpR ho pa pb hm, fun B σ env F H d Q rr e k => ?_⟩
  obtain ⟨d', e, hbo⟩ := Option.bind_eq_some_iff.mp e
  obtain ⟨x, y, hx, hy, hg⟩ := bind2 e
  refine qa B σ env F H x _ rr hx fun v F1 H1 s1 t1 r1 b1 => ?_
  refine qb B σ env F1 H1 y _ r1 hy fun u F2 H2 s2 t2 r2 b2 => ?_
  refine hs F2 H2 v u x y d' _ r2.fh (b1.mono s2 t2 na) b2 hg fun w F3 H3 got => ?_
  obtain ⟨s3, t3, r3⟩ := r2.got got
  exact ⟨d, r3.bw.bo hbo, k F3 H3 ((s1.trans s2).trans s3) ((t1.trans t2).trans t3) r3.rel⟩
def truth : D → Option Bool
  | .none => some false
  | .bool b => some b
  | .int i => some (i != 0)
  | .str x => if x.length ≤ 16777216 then some (x.length != 0) else none
  | .list xs => some (!xs.isEmpty)
  | .tuple xs => some (!xs.isEmpty)
  | .dict _ => none
theorem isEmpty_eq {α β : Type} {xs : List α} {ys : List β} (h : xs.length = ys.length) : xs.isEmpty = ys.isEmpty := by
  cases xs <;> cases ys <;> simp at h ⊢
theorem Rp.tru {v : V} {d : D} {b : Bool} (h : Rp K H v d) (e : truth d = some b) : TruV K v H b := by
  cases h with
  | non => simp [truth] at e; exact e ▸ rfl
  | bl c => simp [truth] at e; exact e ▸ rfl
  | int i => simp [truth] at e; subst e; rfl
  | str x =>
    simp only [truth] at e
    split at e
    · cases e
      refine ⟨szLine (by assumption), ?_⟩
      simp only [bne]
      congr 1
      rw [Bool.eq_iff_iff]
      simp
    · cases e
  | lst s r =>
    simp only [truth, Option.some.injEq] at e
    exact .inl ⟨_, s, by rw [← e, isEmpty_eq r.length]⟩
  | tup s r =>
    simp only [truth, Option.some.injEq] at e
    exact .inr (.inl ⟨_, SqT.of s, by rw [← e, isEmpty_eq r.length]⟩)
  | dic s q r => cases e
def tT (f : EF) : TF := fun env => (f env).bind truth
theorem st_truth {a : Expr} {fa : EF} {n : Nat} (ha : SB X Γ a fa n Γ1) (he : ∀ whole, isTrue a X.env whole = (do let v ← whole; standAt a.pos; holding [v] (truthy v)) := by intro _; rfl) : STs X Γ a (tT fa) Γ1 := by
  obtain ⟨ta, pa, qa⟩ := ha
  refine ⟨_, pt_truth pa he, fun B σ env F H b Q rr e k => ?_⟩
  obtain ⟨d, hx, e⟩ := Option.bind_eq_some_iff.mp e
  refine qa B σ env F H d _ rr hx fun v F1 H1 s1 t1 r1 b1 => ⟨b, (b1.rp r1.fh n).tru e, k F1 H1 s1 t1 r1⟩
def tNotF (c : TF) : TF := fun env => (c env).map (!·)
def tAndF (c d : TF) : TF := fun env => (c env).bind fun b => if b = true then d env else some false
def tOrF (c d : TF) : TF := fun env => (c env).bind fun b => if b = true then some true else d env
theorem st_not {a : Expr} {pos : Pos} {fa : TF} (ha : STs X Γ a fa Γ1) : STs X Γ (.UnaryOp .Not a pos) (tNotF fa) Γ1 := by
  obtain ⟨ta, pa, qa⟩ := ha
  refine ⟨_, pt_not pa, fun B σ env F H b Q rr e k => ?_⟩
  obtain ⟨c, hx, e⟩ := Option.map_eq_some_iff.mp e
  subst e
  exact qa B σ env F H c _ rr hx fun F1 H1 s1 t1 r1 => k F1 H1 s1 t1 r1
theorem sw_and1 {a : Expr} {pos : Pos} {fa : TF} (ha : STs X Γ a fa Γ1) : STw X Γ (.BoolOp .And [a] pos) fa Γ1 := by
  obtain ⟨ta, pa, qa⟩ := ha
  exact ⟨_, pw_and1 pa, qa⟩
theorem sw_or1 {a : Expr} {pos : Pos} {fa : TF} (ha : STs X Γ a fa Γ1) : STw X Γ (.BoolOp .Or [a] pos) fa Γ1 := by
  obtain ⟨ta, pa, qa⟩ := ha
  exact ⟨_, pw_or1 pa, qa⟩
theorem sw_and {a b : Expr} {rest : List Expr} {pos : Pos} {fa fb : TF} (ha : STs X Γ a fa Γ1) (hb : STw X Γ1 (.BoolOp .And (b :: rest) pos) fb Γ2) (l : LeC Γ2 Γ1 = true := by rfl) : STw X Γ (.BoolOp .And (a :: b :: rest) pos) (tAndF fa fb) Γ2 := by
  obtain ⟨ta, pa, qa⟩ := ha.sub (leC_refl _)
  obtain ⟨tb, pb, qb⟩ := hb
  refine ⟨_, pw_and pa pb, fun B σ env F H b Q rr e k => ?_⟩
  obtain ⟨c, hx, e⟩ := Option.bind_eq_some_iff.mp e
  refine qa B σ env F H c _ rr hx fun F1 H1 s1 t1 r1 => ?_
  cases c with
  | true => exact qb B σ env F1 H1 b Q r1 (by simpa using e) fun F2 H2 s2 t2 r2 => k F2 H2 (s1.trans s2) (t1.trans t2) r2
  | false =>
    simp at e
    subst e
    obtain ⟨F2, u, r2⟩ := r1.down l
    exact k F2 H1 (s1.trans u) t1 r2
theorem sw_or {a b : Expr} {rest : List Expr} {pos : Pos} {fa fb : TF} (ha : STs X Γ a fa Γ1) (hb : STw X Γ1 (.BoolOp .Or (b :: rest) pos) fb Γ2) (l : LeC Γ2 Γ1 = true := by rfl) : STw X Γ (.BoolOp .Or (a :: b :: rest) pos) (tOrF fa fb) Γ2 := by
  obtain ⟨ta, pa, qa⟩ := ha
  obtain ⟨tb, pb, qb⟩ := hb
  refine ⟨_, pw_or pa pb, fun B σ env F H b Q rr e k => ?_⟩
  obtain ⟨c, hx, e⟩ := Option.bind_eq_some_iff.mp e
  refine qa B σ env F H c _ rr hx fun F1 H1 s1 t1 r1 => ?_
  cases c with
  | false => exact qb B σ env F1 H1 b Q r1 (by simpa using e) fun F2 H2 s2 t2 r2 => k F2 H2 (s1.trans s2) (t1.trans t2) r2
  | true =>
    simp at e
    subst e
    obtain ⟨F2, u, r2⟩ := r1.down l
    exact k F2 H1 (s1.trans u) t1 r2
def eAnd (fa fb : EF) : EF := fun env => (fa env).bind fun x => match x with | .bool true => fb env | .bool false => some (.bool false) | _ => none
def eNot (fa : EF) : EF := fun env => (fa env).bind fun x => match x with | .bool b => some (.bool (!b)) | _ => none
theorem Bw.vbl {n : Nat} {b : Bool} {v : V} (h : Bw K F H n (.bool b) v) : v = .bl b := h.bo rfl
theorem se_one {op} {a : Expr} {pos : Pos} {fa : EF} {n : Nat} (ha : SE X Γ a fa n Γ1) : SE X Γ (.BoolOp op [a] pos) fa n Γ1 := by
  obtain ⟨ta, pa, qa⟩ := ha
  exact ⟨_, pe_one pa, qa⟩
theorem se_and {a b : Expr} {rest : List Expr} {pos : Pos} {fa fb : EF} (ha : SE X Γ a fa 0 Γ1) (hb : SE X Γ1 (.BoolOp .And (b :: rest) pos) fb 0 Γ2) (l : LeC Γ2 Γ1 = true := by rfl) : SE X Γ (.BoolOp .And (a :: b :: rest) pos) (eAnd fa fb) 0 Γ2 := by
  obtain ⟨ta, pa, qa⟩ := ha
  obtain ⟨tb, pb, qb⟩ := hb
  refine ⟨_, pe_and pa pb, fun B σ env F H d Q rr e k => ?_⟩
  obtain ⟨c, hx, e⟩ := Option.bind_eq_some_iff.mp e
  refine qa B σ env F H c _ rr hx fun v F1 H1 s1 t1 r1 => ?_
  split at e
  · have ev := r1.bw.vbl
    exact ⟨true, ev, qb B σ env F1 H1 d Q r1.rel e fun v F2 H2 s2 t2 r2 => k v F2 H2 (s1.trans s2) (t1.trans t2) r2⟩
  · have ev := r1.bw.vbl
    cases e
    obtain ⟨F2, u, r2⟩ := r1.rel.down l
    exact ⟨false, ev, k _ F2 H1 (s1.trans u) t1 (r2.t0 (.bl false))⟩
  · cases e
theorem se_not {a : Expr} {pos : Pos} {fa : EF} (ha : SE X Γ a fa 0 Γ1) : SE X Γ (.UnaryOp .Not a pos) (eNot fa) 0 Γ1 := by
  obtain ⟨ta, pa, qa⟩ := ha
  refine ⟨_, pe_not pa, fun B σ env F H d Q rr e k => ?_⟩
  obtain ⟨c, hx, e⟩ := Option.bind_eq_some_iff.mp e
  refine qa B σ env F H c _ rr hx fun v F1 H1 s1 t1 r1 => ?_
  split at e
  · have ev := r1.bw.vbl
    cases e
    exact ⟨_, ev, k _ F1 H1 s1 t1 (r1.rel.t0 (.bl _))⟩
  · cases e
end
end Pf

set_option Elab.async false
set_option linter.all false
set_option maxRecDepth 100000
set_option maxHeartbeats 4000000
namespace Pf
open PySem L2
inductive Out where
  | nx (env : List D) | rt (d : D) | bk (env : List D) | ct (env : List D)
structure Lp where
  ρ : Nat
  bk : Ctx
  ct : Ctx
  /-- slots that are not written -/
  pin : List Nat
  /-- what is wished of an exception -/
  wx : WX := fun _ _ _ _ => True
def mkX (x : D) : D := .dict [(.bool true, x)]
def ExIs (K : PySem.W.Frag) (F : Hp) (c : Value) (dd : Option Addr) (x : D) : Prop :=
  ∃ (nm : Str) (C : Addr) (ks : List Str) (fs : List D), x = .tuple [.str nm, .list (ks.map .str), .list fs] ∧ PySem.W.nsIn K mainGlobals nm = some (some (.ref C)) ∧ c = .ref C ∧
    ((dd = none ∧ ks = [] ∧ fs = []) ∨ ∃ (a : Addr) (xs : List (Str × V)), dd = some a ∧ F a = some (.xd xs) ∧ xs.map (·.1) = ks ∧ RpAll K F (xs.map (·.2)) fs)
theorem noX {K : PySem.W.Frag} {F : Hp} {v : V} {x : D} (h : Rp K F v (mkX x)) : False := by
  unfold mkX at h
  cases h with
  | dic h1 h2 h3 =>
    rcases h2 with ⟨l, _, e, _⟩ | ⟨l, r, _, e, _⟩ | ⟨l, r, _, e, _⟩ | ⟨C, dx, fs, r, _, e, _⟩
    · match l, e with
      | ((.inl i), v) :: l, e => simp [kD] at e
      | ((.inr i), v) :: l, e => simp [kD] at e
    · simp at e
    · simp [nEnc] at e
    · simp at e
theorem noXo {K : PySem.W.Frag} {F H : Hp} {n : Nat} {v : V} {x : D} {g : Fp} (h : Own K F H n (mkX x) v g) : False := by
  cases n with
  | zero => exact noX h.1
  | succ n =>
    obtain ⟨b, o, vs, f2, ev, hb, hn, hk, q, hf⟩ := h
    rcases hk with ⟨l, _, e, _⟩ | ⟨l, r, _, e, _⟩ | ⟨l, r, _, e, _⟩ | ⟨C, dx, fs, r, _, e, _⟩
    · match l, e with
      | ((.inl i), v) :: l, e => simp [kD] at e
      | ((.inr i), v) :: l, e => simp [kD] at e
    · simp at e
    · simp [nEnc] at e
    · simp at e
def Kp (L : Lp) (σ : St) (env : List D) (σ' : St) (env' : List D) : Prop := ∀ i ∈ L.pin, σ'[i]? = σ[i]? ∧ env'[i]? = env[i]?
theorem Kp.refl {L : Lp} {σ : St} {env : List D} : Kp L σ env σ env := fun _ _ => ⟨rfl, rfl⟩
theorem Kp.trans {L : Lp} {σ σ1 σ2 : St} {env e1 e2 : List D} (h : Kp L σ env σ1 e1) (k : Kp L σ1 e1 σ2 e2) : Kp L σ env σ2 e2 := fun i hi => ⟨(k i hi).1.trans (h i hi).1, (k i hi).2.trans (h i hi).2⟩
theorem set_other {α : Type} {xs : List α} {i j : Nat} {x : α} (h : j ≠ i) : (xs.set i x)[j]? = xs[j]? := List.getElem?_set_ne fun e => h e.symm
theorem Kp.set {L : Lp} {σ : St} {env : List D} {i : Nat} {x : Option V} {d : D} (hi : i ∉ L.pin) : Kp L σ env (σ.set i x) (env.set i d) := fun j hj => by
  have : j ≠ i := fun e => hi (e ▸ hj)
  exact ⟨set_other this, set_other this⟩
theorem Kp.setE {L : Lp} {σ : St} {env : List D} {i : Nat} {d : D} (hi : i ∉ L.pin) : Kp L σ env σ (env.set i d) := fun j hj => by
  have : j ≠ i := fun e => hi (e ▸ hj)
  exact ⟨rfl, set_other this⟩
def PostS (K : PySem.W.Frag) (B : Bs) (L : Lp) (Γ' : Ctx) (F : Hp) (σ0 : St) (env0 : List D) (E : Ends) : Out → Prop
  | .nx env => ∀ σ F' H', Same F F' → Rel K B Γ' σ env F' H' → Kp L σ0 env0 σ env → E.nx σ H'
  | .rt d => (∀ v F' H', Same F F' → (∃ g, Own K F' H' L.ρ d v g ∧ Ok B F' H' g) → E.rt v H') ∧
    ∀ x, d = mkX x → ∀ c dd σ' F' H', Same F F' → Ok B F' H' (fun _ => 0) → ExIs K F' c dd x → L.wx c dd σ' H'
  | .bk env => ∀ σ F' H', Same F F' → Rel K B L.bk σ env F' H' → Kp L σ0 env0 σ env → E.bk σ H'
  | .ct env => ∀ σ F' H', Same F F' → Rel K B L.ct σ env F' H' → Kp L σ0 env0 σ env → E.ct σ H'
abbrev SF := List D → Option Out
def SS (X : Cx) (L : Lp) (Γ : Ctx) (st : Stmt) (f : SF) (Γ' : Ctx) : Prop :=
  ∃ t : TS, PS X st t ∧ ∀ (B : Bs) (σ : St) (env : List D) (F H : Hp) (o : Out) (E : Ends), Rel X.K B Γ σ env F H → f env = some o → PostS X.K B L Γ' F σ env E o → t E σ H
def SSs (X : Cx) (L : Lp) (Γ : Ctx) (sts : List Stmt) (f : SF) (Γ' : Ctx) : Prop :=
  ∃ t : TS, PSs X sts t ∧ ∀ (B : Bs) (σ : St) (env : List D) (F H : Hp) (o : Out) (E : Ends), Rel X.K B Γ σ env F H → f env = some o → PostS X.K B L Γ' F σ env E o → t E σ H
section
variable {X : Cx} {L : Lp} {Γ Γ1 Γ2 Γ' : Ctx} {K : PySem.W.Frag} {F F' H H' : Hp} {B : Bs}
theorem PostS.up {σ : St} {env0 : List D} {E : Ends} {o : Out} (e : Same F F') (h : PostS K B L Γ F σ env0 E o) : PostS K B L Γ F' σ env0 E o := by
  cases o with
  | nx env => exact fun σ F2 H2 s r kp => h σ F2 H2 (e.trans s) r kp
  | rt d => exact ⟨fun v F2 H2 s r => h.1 v F2 H2 (e.trans s) r, fun x ex c dd σ' F2 H2 s r => h.2 x ex c dd σ' F2 H2 (e.trans s) r⟩
  | bk env => exact fun σ F2 H2 s r kp => h σ F2 H2 (e.trans s) r kp
  | ct env => exact fun σ F2 H2 s r kp => h σ F2 H2 (e.trans s) r kp
theorem PostS.down {σ : St} {env0 : List D} {E : Ends} {o : Out} (l : LeC Γ' Γ = true) (h : PostS K B L Γ' F σ env0 E o) : PostS K B L Γ F σ env0 E o := by
  cases o with
  | nx env =>
    intro σ F2 H2 s r kp
    obtain ⟨F3, u, r3⟩ := r.down l
    exact h σ F3 H2 (s.trans u) r3 kp
  | rt d => exact h
  | bk env => exact h
  | ct env => exact h
theorem PostS.on {σ σ1 : St} {env0 env1 : List D} {E : Ends} {o : Out} (k : Kp L σ env0 σ1 env1) (h : PostS K B L Γ F σ env0 E o) : PostS K B L Γ F σ1 env1 E o := by
  cases o with
  | nx env => exact fun σ F2 H2 s r kp => h σ F2 H2 s r (k.trans kp)
  | rt d => exact h
  | bk env => exact fun σ F2 H2 s r kp => h σ F2 H2 s r (k.trans kp)
  | ct env => exact fun σ F2 H2 s r kp => h σ F2 H2 s r (k.trans kp)
theorem SSs.sub {sts : List Stmt} {f : SF} (h : SSs X L Γ sts f Γ1) (l : LeC Γ' Γ1 = true) : SSs X L Γ sts f Γ' := by
  obtain ⟨t, p, q⟩ := h
  exact ⟨t, p, fun B σ env F H o E r e k => q B σ env F H o E r e (k.down l)⟩
theorem SS.sub {sts : Stmt} {f : SF} (h : SS X L Γ sts f Γ1) (l : LeC Γ' Γ1 = true) : SS X L Γ sts f Γ' := by
  obtain ⟨t, p, q⟩ := h
  exact ⟨t, p, fun B σ env F H o E r e k => q B σ env F H o E r e (k.down l)⟩
theorem SSs.pre {sts : List Stmt} {f : SF} (l : LeC Γ1 Γ = true) (h : SSs X L Γ1 sts f Γ') : SSs X L Γ sts f Γ' := by
  obtain ⟨t, p, q⟩ := h
  refine ⟨t, p, fun B σ env F H o E r e k => ?_⟩
  obtain ⟨F2, u, r2⟩ := r.down l
  exact q B σ env F2 H o E r2 e (k.up u)
theorem SS.pre {sts : Stmt} {f : SF} (l : LeC Γ1 Γ = true) (h : SS X L Γ1 sts f Γ') : SS X L Γ sts f Γ' := by
  obtain ⟨t, p, q⟩ := h
  refine ⟨t, p, fun B σ env F H o E r e k => ?_⟩
  obtain ⟨F2, u, r2⟩ := r.down l
  exact q B σ env F2 H o E r2 e (k.up u)
def sSkip : SF := fun env => some (.nx env)
def sSeq (f g : SF) : SF := fun env => (f env).bind fun o => match o with | .nx env' => g env' | .rt d => some (.rt d) | .bk e => some (.bk e) | .ct e => some (.ct e)
theorem ss_nil : SSs X L Γ [] sSkip Γ := ⟨_, pss_nil, fun B σ env F H o E r e k => by
  cases e
  exact k σ F H (Same.refl _) r .refl⟩
theorem ss_one {st : Stmt} {f : SF} (h : SS X L Γ st f Γ') : SSs X L Γ [st] f Γ' := by
  obtain ⟨t, p, q⟩ := h
  exact ⟨t, pss_one p, q⟩
theorem ss_cons {st : Stmt} {rest : List Stmt} {f g : SF} (h : SS X L Γ st f Γ1) (hr : SSs X L Γ1 rest g Γ') : SSs X L Γ (st :: rest) (sSeq f g) Γ' := by
  obtain ⟨t, p, q⟩ := h
  obtain ⟨t2, p2, q2⟩ := hr
  refine ⟨_, pss_cons p p2, fun B σ env F H o E r e k => ?_⟩
  obtain ⟨o1, h1, e⟩ := Option.bind_eq_some_iff.mp e
  refine q B σ env F H o1 _ r h1 ?_
  cases o1 with
  | nx env' => exact fun σ2 F2 H2 s r2 kp => q2 B σ2 env' F2 H2 o E r2 e ((k.up s).on kp)
  | rt d => cases e; exact k
  | bk e' => cases e; exact fun v F2 H2 s r2 => k v F2 H2 s r2
  | ct e' => cases e; exact fun v F2 H2 s r2 => k v F2 H2 s r2
def sRet (f : EF) : SF := fun env => (f env).bind fun d => some (.rt d)
theorem ss_ret {e : Expr} {f : EF} {n : Nat} {pos : Pos} (h : SE X Γ e f n Γ1) (hn : L.ρ ≤ n := by exact Nat.le_refl _) : SS X L Γ (.Return (some e) pos) (sRet f) Γ' := by
  obtain ⟨t, p, q⟩ := h.sub (leC_refl _) hn
  refine ⟨_, ps_ret p, fun B σ env F H o E r e k => ?_⟩
  obtain ⟨d, hd, e⟩ := Option.bind_eq_some_iff.mp e
  cases e
  refine q B σ env F H d _ r hd fun v F2 H2 s1 _ r2 => k.1 v F2 H2 s1 ?_
  obtain ⟨f, g, s, ow, ok⟩ := r2
  exact ⟨g, ow, ok.less fun a => by show g a ≤ g a + f a; omega⟩
def sIf (c : TF) (f g : SF) : SF := fun env => (c env).bind fun b => if b = true then f env else g env
theorem ss_if {c : Expr} {a b : List Stmt} {pos : Pos} {fc : TF} {f g : SF} (hc : STs X Γ c fc Γ1) (ha : SSs X L Γ1 a f Γ') (hb : SSs X L Γ1 b g Γ') : SS X L Γ (.If c a b pos) (sIf fc f g) Γ' := by
  obtain ⟨tc, pc, qc⟩ := hc
  obtain ⟨ta, pa, qa⟩ := ha
  obtain ⟨tb, pb, qb⟩ := hb
  refine ⟨_, ps_if pc pa pb, fun B σ env F H o E r e k => ?_⟩
  obtain ⟨b, hx, e⟩ := Option.bind_eq_some_iff.mp e
  refine qc B σ env F H b _ r hx fun F1 H1 s1 t1 r1 => ?_
  cases b with
  | true => exact qa B σ env F1 H1 o E r1 (by simpa using e) (k.up s1)
  | false => exact qb B σ env F1 H1 o E r1 (by simpa using e) (k.up s1)

theorem RelT.put {σ : St} {env : List D} {n i : Nat} {d : D} {v : V} (r : RelT K B Γ σ env F H n d v) (hi : i < Γ.length) : Rel K B (Γ.set i (some n)) (σ.set i (some v)) (env.set i d) F H := by
  obtain ⟨f, g, s, o, k⟩ := r
  obtain ⟨f2, l, q⟩ := s.put hi o
  exact ⟨f2, q, k.less l⟩
def sSet (i : Nat) (f : EF) : SF := fun env => (f env).bind fun d => some (.nx (env.set i d))
theorem ss_set (i : Nat) {x : Str} {e : Expr} {f : EF} {n : Nat} {pos pos' : Pos} (h : SE X Γ e f n Γ1) (hN : X.N.Nodup) (hpin : i ∉ L.pin := by first | decide | simp) (hl : i < Γ1.length := by decide) (hi : X.N[i]? = some x := by rfl) (hx : Loc X.env.scope x := by first | exact .inl rfl | exact .inr rfl) (hs : swapsWith e (some (.Name x pos')) pos.line X.env = pure false := by rfl)
    (hf : X.fn x = true ∨ X.env.scope.names.lookup x = some .local := by first | exact .inl rfl | exact .inr rfl) : SS X L Γ (.Assign [.Name x pos'] e pos) (sSet i f) (Γ1.set i (some n)) := by
  obtain ⟨t, p, q⟩ := h
  refine ⟨_, ps_set hN hi hx p hs hf, fun B σ env F H o E r e k => ?_⟩
  obtain ⟨d, hd, e⟩ := Option.bind_eq_some_iff.mp e
  cases e
  exact q B σ env F H d _ r hd fun v F2 H2 s1 _ r2 => k _ F2 H2 s1 (r2.put hl) (.set hpin)
def GOk (g : D → List D → Option (List D)) (ws : List Nat) : Prop := ∀ d env env', g d env = some env' → env'.length = env.length ∧ ∀ j, j ∉ ws → env'[j]? = env[j]?
def GsOk (g : List D → List D → Option (List D)) (ws : List Nat) : Prop := ∀ d env env', g d env = some env' → env'.length = env.length ∧ ∀ j, j ∉ ws → env'[j]? = env[j]?
def SG (X : Cx) (Γ : Ctx) (tg : Expr) (g : D → List D → Option (List D)) (ws : List Nat) (Γ' : Ctx) : Prop :=
  GOk g ws ∧ ∃ t : TG, PG X tg t ∧ ∀ (B : Bs) (σ : St) (env env' : List D) (F H : Hp) (d : D) (v : V) (Q : St → Hp → Prop), Rel X.K B Γ σ env F H → Rp X.K F v d → g d env = some env' →
    (∀ σ', Rel X.K B Γ' σ' env' F H → σ'.length = σ.length → (∀ j, j ∉ ws → σ'[j]? = σ[j]?) → Q σ' H) → t v σ H Q
def SGs (X : Cx) (Γ : Ctx) (tgs : List Expr) (g : List D → List D → Option (List D)) (ws : List Nat) (Γ' : Ctx) : Prop :=
  GsOk g ws ∧ ∃ t : TGs, PGs X tgs t ∧ ∀ (B : Bs) (σ : St) (env env' : List D) (F H : Hp) (ds : List D) (vs : List V) (Q : St → Hp → Prop), Rel X.K B Γ σ env F H → RpAll X.K F vs ds → g ds env = some env' →
    (∀ σ', Rel X.K B Γ' σ' env' F H → σ'.length = σ.length → (∀ j, j ∉ ws → σ'[j]? = σ[j]?) → Q σ' H) → t vs σ H Q
def gN (i : Nat) : D → List D → Option (List D) := fun d env => some (env.set i d)
theorem sg_name (i : Nat) {x : Str} {pos : Pos} (hN : X.N.Nodup) (hl : i < Γ.length := by decide) (hi : X.N[i]? = some x := by rfl) (hx : Loc X.env.scope x := by first | exact .inl rfl | exact .inr rfl)
    (hf : X.fn x = true ∨ X.env.scope.names.lookup x = some .local := by first | exact .inl rfl | exact .inr rfl) : SG X Γ (.Name x pos) (gN i) [i] (Γ.set i (some 0)) :=
  ⟨(fun d env env' e => by
    cases e
    refine ⟨by simp, fun j hj => ?_⟩
    rw [List.getElem?_set_ne]
    intro c
    exact hj (by simp [c])), _, pg_name hN hi hx hf, fun B σ env env' F H d v Q r h e k => by
    cases e
    refine k _ ((r.t0 h).put hl) (by simp) (fun j hj => ?_)
    rw [List.getElem?_set_ne]
    intro c
    exact hj (by simp [c])⟩
def gEmp : List D → List D → Option (List D) := fun ds env => match ds with | [] => some env | _ => none
def gMore (g : D → List D → Option (List D)) (gs : List D → List D → Option (List D)) : List D → List D → Option (List D) := fun ds env => match ds with | d :: ds => (g d env).bind fun env' => gs ds env' | [] => none
def gTpl (gs : List D → List D → Option (List D)) (n : Nat) : D → List D → Option (List D) := fun d env => match d with | .tuple ds => if ds.length = n then gs ds env else none | _ => none
theorem sgs_nil : SGs X Γ [] gEmp [] Γ := ⟨(fun d env env' e => by
    cases d with
    | nil => cases e; exact ⟨rfl, fun _ _ => rfl⟩
    | cons _ _ => cases e), _, pgs_nil, fun B σ env env' F H ds vs Q r h e k => by
  cases h with
  | nil => cases e; exact ⟨rfl, k _ r rfl fun _ _ => rfl⟩
  | cons a b => cases e⟩
theorem sgs_cons {e : Expr} {es : List Expr} {g : D → List D → Option (List D)} {gs : List D → List D → Option (List D)} {ws vs : List Nat} (h1 : SG X Γ e g ws Γ1) (h2 : SGs X Γ1 es gs vs Γ2) (hs : (assignEach (e :: es) X.env).map (·.2) = assign e X.env :: (assignEach es X.env).map (·.2) := by rfl) : SGs X Γ (e :: es) (gMore g gs) (ws ++ vs) Γ2 := by
  obtain ⟨ok1, t, p, q⟩ := h1
  obtain ⟨ok2, t2, p2, q2⟩ := h2
  refine ⟨fun d env env' e => ?_, _, pgs_cons p p2 hs, fun B σ env env' F H ds us Q r h e k => ?_⟩
  · cases d with
    | nil => cases e
    | cons d ds =>
      obtain ⟨env1, h1, e⟩ := Option.bind_eq_some_iff.mp e
      obtain ⟨a1, a2⟩ := ok1 _ _ _ h1
      obtain ⟨b1, b2⟩ := ok2 _ _ _ e
      exact ⟨b1.trans a1, fun j hj => (b2 j fun c => hj (List.mem_append_right _ c)).trans (a2 j fun c => hj (List.mem_append_left _ c))⟩
  cases h with
  | nil => cases e
  | cons a b =>
    obtain ⟨env1, h1, e⟩ := Option.bind_eq_some_iff.mp e
    exact ⟨_, _, rfl, q B σ env env1 F H _ _ _ r a h1 fun σ1 r1 l1 j1 => q2 B σ1 env1 env' F H _ _ _ r1 b e fun σ2 r2 l2 j2 => k σ2 r2 (l2.trans l1) fun j hj => (j2 j fun c => hj (List.mem_append_right _ c)).trans (j1 j fun c => hj (List.mem_append_left _ c))⟩
theorem sg_tup {es : List Expr} {k : Nat} {pos : Pos} {gs : List D → List D → Option (List D)} {n : Nat} {ws : List Nat} (hc : X.calm = true) (h : SGs X Γ es gs ws Γ') (hn : (assignEach es X.env).length = n := by rfl) (hst : (assignEach es X.env).findIdx? (·.1) = none := by rfl) : SG X Γ (.Tuple es k pos) (gTpl gs n) ws Γ' := by
  obtain ⟨okg, t, p, q⟩ := h
  refine ⟨fun d env env' e => ?_, _, pg_tup hc p hn hst, fun B σ env env' F H d v Q r h e k => ?_⟩
  · cases d with
    | tuple ds =>
      simp only [gTpl] at e
      split at e
      · exact okg _ _ _ e
      · cases e
    | _ => cases e
  cases h with
  | tup s ra =>
    simp only [gTpl] at e
    split at e
    · rename_i c
      exact ⟨_, _, rfl, SqT.of (r.fh _ _ s), ra.length.trans c, q B σ env env' F H _ _ _ r ra e k⟩
    · cases e
  | _ => cases e
def sAsg (g : D → List D → Option (List D)) (f : EF) : SF := fun env => (f env).bind fun d => (g d env).bind fun env' => some (.nx env')
theorem ss_asg {tg e : Expr} {g : D → List D → Option (List D)} {f : EF} {pos : Pos} {ws : List Nat} (h : SE X Γ e f 0 Γ1) (hg : SG X Γ1 tg g ws Γ') (hpin : ∀ j ∈ L.pin, j ∉ ws := by first | decide | simp) (hs : swapsWithSole [tg] e pos.line X.env = pure false := by rfl) (hw : swappedStores [tg] e X.env = pure none := by rfl) (h1 : (assignEach [tg] X.env).map (·.2) = [assign tg X.env] := by rfl) : SS X L Γ (.Assign [tg] e pos) (sAsg g f) Γ' := by
  obtain ⟨t, p, q⟩ := h
  obtain ⟨gk, t2, p2, q2⟩ := hg
  refine ⟨_, ps_asg p p2 hs hw h1, fun B σ env F H o E r e k => ?_⟩
  obtain ⟨d, hd, e⟩ := Option.bind_eq_some_iff.mp e
  obtain ⟨env', he, e⟩ := Option.bind_eq_some_iff.mp e
  cases e
  refine q B σ env F H d _ r hd fun v F2 H2 s1 _ r2 => ?_
  exact q2 B σ env env' F2 H2 d v _ r2.rel r2.bw he fun σ' r3 _ hj => k σ' F2 H2 s1 r3 fun j hp => ⟨hj j (hpin j hp), (gk _ _ _ he).2 j (hpin j hp)⟩

theorem BwAll.app {P : D → V → Prop} {d : D} {v : V} (h : P d v) : ∀ {ds : List D} {vs : List V}, BwAll P ds vs → BwAll P (ds ++ [d]) (vs ++ [v])
  | [], [], _ => ⟨h, trivial⟩
  | _ :: _, _ :: _, ⟨a, b⟩ => ⟨a, b.app h⟩
  | [], _ :: _, h => h.elim
  | _ :: _, [], h => h.elim
theorem OwnAll.app {P : D → V → Fp → Prop} {d : D} {v : V} {g : Fp} (h : P d v g) : ∀ {ds : List D} {vs : List V} {f : Fp}, OwnAll P ds vs f → OwnAll P (ds ++ [d]) (vs ++ [v]) (fun a => f a + g a)
  | [], [], f, q => ⟨g, fun _ => 0, h, fun _ => rfl, fun a => by have := q a; show f a + g a = g a + 0; omega⟩
  | _ :: _, _ :: _, f, ⟨f1, f2, a, b, e⟩ => ⟨f1, _, a, b.app h, fun x => by have := e x; show f x + g x = f1 x + (f2 x + g x); omega⟩
  | [], _ :: _, _, h => h.elim
  | _ :: _, [], _, h => h.elim
theorem own_list {n : Nat} {d : D} {v : V} {f : Fp} {ds : List D} (h : Own K F H (n + 1) d v f) (e : d = .list ds) : ∃ a vs f2, v = .ref a ∧ H a = some (.lst vs) ∧ F a = none ∧ OwnAll (Own K F H n) ds vs f2 ∧ ∀ b, f b = (if b = a then 1 else 0) + f2 b := by
  subst e
  exact h
def sApp (i : Nat) (f : EF) : SF := fun env => (f env).bind fun d => (env[i]?).bind fun x => match x with | .list ds => if ds.length < 16777216 then some (.nx (env.set i (.list (ds ++ [d])))) else none | _ => none
theorem szLt {n : Nat} (h : n < 16777216) : n < sizeLine := by rw [sizeLine_eq]; exact h
theorem Ok.write {f : Fp} {a : Addr} {o u : HO} (k : Ok B F H f) (ha : 0 < f a) (hF : F a = none) (hu : H a = some u := by assumption) (n1 : NT u := by first | assumption | (intro ps z; cases z; done) | (intro ps z; unfold LamX.CodeO at z; cases z; done) | exact DicO.nt (by assumption) | exact DicO.nc (by assumption) | exact fun _ => dn_nc | (intro ps z; unfold DN at z; cases z; done) | fail) (n2 : ∀ q, u ≠ LamX.CodeO a q := by first | assumption | (intro ps z; cases z; done) | (intro ps z; unfold LamX.CodeO at z; cases z; done) | exact DicO.nt (by assumption) | exact DicO.nc (by assumption) | exact fun _ => dn_nc | (intro ps z; unfold DN at z; cases z; done) | fail) : Ok B F (upd H a o) f :=
  ⟨⟨k.fh.toSame.put hF hu n1 n2, tb_put k.fh.th hu n1 n2⟩, k.h0.put (k.fr a ha) hu n1 n2, k.f0, k.fn, k.one, k.fr⟩
theorem ss_append (i : Nat) {x : Str} {xpos apos cpos pos : Pos} {e : Expr} {f : EF} {n m : Nat} (hi : Γ1[i]? = some (some (n + 1))) (h : SE X Γ e f m Γ1) (hm : n ≤ m := by exact Nat.le_refl _) (hx : PE X (.Name x xpos) (tVar i)) (hi0 : Γ[i]? = some (some (n + 1)))
        (hp : ∀ ta, PA X [e] ta → PE X (.Call (.Attribute (.Name x xpos) "append" apos) [e] [] cpos) (tBM X.K "list" rAppend (tVar i) ta)) (he : starEach [e] X.env = (false, eval e X.env) :: starEach [] X.env := by rfl)
    (hs : swapsWith (.Call (.Attribute (.Name x xpos) "append" apos) [e] [] cpos) none pos.line X.env = pure false := by rfl) (hpin : i ∉ L.pin := by first | decide | simp) :
    SS X L Γ (.Expr (.Call (.Attribute (.Name x xpos) "append" apos) [e] [] cpos) pos) (sApp i f) Γ1 := by
  obtain ⟨te, p, q⟩ := h.sub (leC_refl _) hm
  refine ⟨_, ps_expr (hp _ (pa_cons p pa_nil he)) hs, fun B σ env F H o E r e k => ?_⟩
  obtain ⟨d, hd, e⟩ := Option.bind_eq_some_iff.mp e
  obtain ⟨x', hx', e⟩ := Option.bind_eq_some_iff.mp e
  cases x' with
  | list ds =>
    simp only at e
    split at e
    · rename_i hz
      cases e
      obtain ⟨v0, d0, s1, e1, b1, _⟩ := r.slot hi0
      rw [hx'] at e1
      cases e1
      obtain ⟨a0, vs0, rfl, ha0, _⟩ := (show ∃ a vs, v0 = .ref a ∧ H a = some (.lst vs) ∧ BwAll (Bw X.K F H n) ds vs from b1)
      refine ⟨_, s1, .inl ⟨rfl, _, .inl (.inl ha0)⟩, ?_⟩
      refine q B σ env F H d _ r hd fun v F2 H2 s2 t2 r2 => ?_
      obtain ⟨f2, g, sl, ow, ok⟩ := r2
      obtain ⟨v1, d1, f3, f4, h1, h2, h3, h4, h5⟩ := sl.focus hi
      rw [hx'] at h2
      cases h2
      rw [s1] at h1
      cases h1
      obtain ⟨a, vs, f6, ea, hl, hF, oa, hf⟩ := own_list h3 rfl
      cases ea
      have hlen : vs.length = ds.length := oa.length
      refine ⟨a0, vs, v, rfl, rfl, hl, by rw [hlen]; exact szLt hz, ?_⟩
      have ha : f3 a0 = 1 + f6 a0 := by have := hf a0; simpa using this
      have one := ok.one a0
      have one' : g a0 + f2 a0 ≤ 1 := one
      have z4 := h4 a0
      have zg : g a0 = 0 := by omega
      have z4' : f4 a0 = 0 := by omega
      have z6 : f6 a0 = 0 := by omega
      have hF2 : F2 a0 = none := hF
      have up : ∀ (b : Addr), b ≠ a0 → upd H2 a0 (.lst (vs ++ [v])) b = H2 b := fun b hb => upd_ne hb
      have ow' : Own X.K F2 (upd H2 a0 (.lst (vs ++ [v]))) n d v g := ow.mono (Same.refl _) n fun b hb => ⟨rfl, up b fun c => by subst c; omega⟩
      have oa' : OwnAll (Own X.K F2 (upd H2 a0 (.lst (vs ++ [v]))) n) ds vs f6 := OwnAll.imp f6 (fun d v f hf6 o => o.mono (Same.refl _) n fun b hb => ⟨rfl, up b fun c => by subst c; have := hf6 b; omega⟩) (fun _ => Nat.le_refl _) oa
      have new : Own X.K F2 (upd H2 a0 (.lst (vs ++ [v]))) (n + 1) (.list (ds ++ [d])) (.ref a0) (fun b => f3 b + g b) := ⟨a0, vs ++ [v], fun b => f6 b + g b, rfl, upd_same, hF, oa'.app ow', fun b => by have := hf b; show f3 b + g b = _ + (f6 b + g b); omega⟩
      have sl' := ((h5 F2 (upd H2 a0 (.lst (vs ++ [v]))) (Same.refl _) (fun b hb => ⟨rfl, up b fun c => by subst c; omega⟩)).2 (.ref a0) (.list (ds ++ [d]))).2 (n + 1) _ new
      have eσ : σ.set i (some (.ref a0)) = σ := by
        apply List.ext_getElem?
        intro j
        by_cases c : i = j
        · subst c
          rw [List.getElem?_set_self (List.getElem?_eq_some_iff.mp s1).1, s1]
        · rw [List.getElem?_set_ne c]
      have eΓ : Γ1.set i (some (n + 1)) = Γ1 := by
        apply List.ext_getElem?
        intro j
        by_cases c : i = j
        · subst c
          rw [List.getElem?_set_self (List.getElem?_eq_some_iff.mp hi).1, hi]
        · rw [List.getElem?_set_ne c]
      rw [eσ, eΓ] at sl'
      refine k σ F2 _ s2 ⟨_, sl', ?_⟩ (.setE hpin)
      have okw : Ok B F2 (upd H2 a0 (.lst (vs ++ [v]))) (fun a => g a + f2 a) := ok.write (show 0 < g a0 + f2 a0 by omega) hF
      exact okw.less fun b => by have := h4 b; show f3 b + g b + f4 b ≤ g b + f2 b; omega
    · cases e
  | none => cases e
  | bool _ => cases e
  | int _ => cases e
  | str _ => cases e
  | tuple _ => cases e
  | dict _ => cases e

structure ItOk (K : PySem.W.Frag) (F : Hp) (J : It) (ds : List D) : Prop where
  go : ∀ i F1 H, Same F F1 → Sub F1 H → i < ds.length → J.go i H
  yld : ∀ i F1 H x H', Same F F1 → Sub F1 H → J.yld i H x H' → ∀ d, ds[i]? = some d → ∃ F2, Got K F1 H F2 H' 0 d x
  stop : ∀ i F1 H, Same F F1 → Sub F1 H → ds.length ≤ i → J.stop i H
def SI (X : Cx) (Γ : Ctx) (tg iter : Expr) (f : AF) (Γ' : Ctx) : Prop :=
  ∃ wi : TI, PI X tg iter wi ∧ ∀ (B : Bs) (σ : St) (env : List D) (F H : Hp) (ds : List D) (R : It → Hp → Prop), Rel X.K B Γ σ env F H → f env = some ds →
    (∀ J F' H', Same F F' → Same H H' → Rel X.K B Γ' σ env F' H' → ItOk X.K F' J ds → R J H') → wi σ H R
def sFor (g : D → List D → Option (List D)) (body : SF) : List D → SF
  | [] => fun env => some (.nx env)
  | d :: ds => fun env => (g d env).bind fun env1 => (body env1).bind fun o => match o with
    | .nx e => sFor g body ds e
    | .ct e => sFor g body ds e
    | .bk e => some (.nx e)
    | .rt d => some (.rt d)
def sForE (f : AF) (g : D → List D → Option (List D)) (body : SF) : SF := fun env => (f env).bind fun ds => sFor g body ds env
theorem drop_get {α : Type} {xs : List α} {i : Nat} {x : α} (h : xs[i]? = some x) : xs.drop i = x :: xs.drop (i + 1) := by
  obtain ⟨h1, h2⟩ := List.getElem?_eq_some_iff.mp h
  rw [List.drop_eq_getElem_cons h1, h2]
theorem ss_for (Γl : Ctx) {tg iter : Expr} {body : List Stmt} {pos : Pos} {f : AF} {g : D → List D → Option (List D)} {b : SF} {ws : List Nat} (hp : PassesOwn (model X.prog X.w) X.A X.env X.xe) (hc : X.calm = true) (hi : SI X Γ tg iter f Γ1) (l : LeC Γl Γ1 = true) (hg : SG X Γl tg g ws Γ2)
    (hb : SSs X ⟨L.ρ, Γl, Γl, L.pin, L.wx⟩ Γ2 body b Γl) (hpin : ∀ j ∈ L.pin, j ∉ ws := by first | decide | simp) (hs : ∀ x, foldedSetIterable iter X.env x = pure x := by intro _; rfl) : SS X L Γ (.For tg iter body [] pos) (sForE f g b) Γl := by
  obtain ⟨wi, pi, qi⟩ := hi
  obtain ⟨gk, tg', pg, qg⟩ := hg
  obtain ⟨tb, pb, qb⟩ := hb
  refine ⟨_, ps_for hp hc pi pg pb hs, fun B σ env F H o E r e k => ?_⟩
  obtain ⟨ds, hds, e⟩ := Option.bind_eq_some_iff.mp e
  refine qi B σ env F H ds _ r hds fun J F1 H1 s1 t1 r1 it => ?_
  obtain ⟨F2, u, r2⟩ := r1.down l
  refine ⟨fun i m σ' H => m = ds.length - i ∧ i ≤ ds.length ∧ ∃ env' F3, Same F1 F3 ∧ Rel X.K B Γl σ' env' F3 H ∧ Kp L σ env σ' env' ∧ sFor g b (ds.drop i) env' = some o, ⟨_, rfl, Nat.zero_le _, env, F2, u, r2, .refl, by simpa using e⟩, ?_⟩
  rintro i m σ3 H3 ⟨rfl, hi, env3, F3, u3, r3, kp3, e3⟩
  by_cases hlt : i < ds.length
  · refine .inr ⟨it.go i F3 H3 u3 r3.fh hlt, fun σ' H' => i + 1 ≤ ds.length ∧ ∃ env' F3, Same F1 F3 ∧ Rel X.K B Γl σ' env' F3 H' ∧ Kp L σ env σ' env' ∧ sFor g b (ds.drop (i + 1)) env' = some o, fun σ' H' ⟨h1, h2⟩ => ⟨_, by omega, rfl, h1, h2⟩, fun x H4 hy => ?_⟩
    have hd : ds[i]? = some ds[i] := List.getElem?_eq_getElem hlt
    obtain ⟨F4, got⟩ := it.yld i F3 H3 x H4 u3 r3.fh hy _ hd
    obtain ⟨s4, t4, r4⟩ := r3.got got
    rw [drop_get hd] at e3
    obtain ⟨env1, he1, e3⟩ := Option.bind_eq_some_iff.mp e3
    obtain ⟨o1, ho1, e3⟩ := Option.bind_eq_some_iff.mp e3
    refine qg B σ3 env3 env1 F4 H4 _ x _ r4.rel r4.bw he1 fun σ5 r5 _ hj => ?_
    have kp5 : Kp L σ env σ5 env1 := kp3.trans fun j hp => ⟨hj j (hpin j hp), (gk _ _ _ he1).2 j (hpin j hp)⟩
    refine qb B σ5 env1 F4 H4 o1 _ r5 ho1 ?_
    cases o1 with
    | nx e' => exact fun σ6 F6 H6 s6 r6 kp6 => ⟨hlt, e', F6, (u3.trans s4).trans s6, r6, kp5.trans kp6, e3⟩
    | ct e' => exact fun σ6 F6 H6 s6 r6 kp6 => ⟨hlt, e', F6, (u3.trans s4).trans s6, r6, kp5.trans kp6, e3⟩
    | bk e' => cases e3; exact fun σ6 F6 H6 s6 r6 kp6 => k σ6 F6 H6 (((s1.trans u3).trans s4).trans s6) r6 (kp5.trans kp6)
    | rt d => cases e3; exact ⟨fun v F6 H6 s6 r6 => k.1 v F6 H6 (((s1.trans u3).trans s4).trans s6) r6, fun x ex c dd σ' F6 H6 s6 r6 => k.2 x ex c dd σ' F6 H6 (((s1.trans u3).trans s4).trans s6) r6⟩
  · have : i = ds.length := by omega
    subst this
    refine .inl ⟨it.stop _ F3 H3 u3 r3.fh (Nat.le_refl _), ?_⟩
    rw [List.drop_length] at e3
    cases e3
    exact k σ3 F3 H3 (s1.trans u3) r3 kp3
def sWh (c : TF) (body : SF) : Nat → SF
  | 0 => fun _ => none
  | n + 1 => fun env => (c env).bind fun b => if b = true then (body env).bind fun o => match o with
      | .nx e => sWh c body n e
      | .ct e => sWh c body n e
      | .bk e => some (.nx e)
      | .rt d => some (.rt d)
    else some (.nx env)
open Classical in
noncomputable def sWhile (c : TF) (body : SF) : SF := fun env => if h : ∃ o n, sWh c body n env = some o then some h.choose else none
theorem sWh_more {c : TF} {body : SF} : ∀ (n : Nat) {env : List D} {o : Out}, sWh c body n env = some o → ∀ m, n ≤ m → sWh c body m env = some o
  | n + 1, env, o, h, m + 1, hm => by
    simp only [sWh] at h ⊢
    obtain ⟨b, hb, h⟩ := Option.bind_eq_some_iff.mp h
    rw [hb]
    simp only [Option.bind_some] at h ⊢
    split at h
    · rename_i c1
      rw [if_pos c1]
      obtain ⟨o1, ho, h⟩ := Option.bind_eq_some_iff.mp h
      rw [ho]
      simp only [Option.bind_some]
      cases o1 with
      | nx e => exact sWh_more n h m (by omega)
      | ct e => exact sWh_more n h m (by omega)
      | bk e => exact h
      | rt d => exact h
    · rename_i c1
      rw [if_neg c1]
      exact h
  | _ + 1, _, _, _, 0, hm => by omega
theorem sWhile_eq {c : TF} {body : SF} {n : Nat} {env : List D} {o : Out} (h : sWh c body n env = some o) : sWhile c body env = some o := by
  have ex : ∃ o n, sWh c body n env = some o := ⟨o, n, h⟩
  unfold sWhile
  rw [dif_pos ex]
  obtain ⟨m, hm⟩ := ex.choose_spec
  have h1 := sWh_more m hm (max m n) (by omega)
  have h2 := sWh_more n h (max m n) (by omega)
  rw [h1] at h2
  exact h2
theorem sWhile_run {c : TF} {body : SF} {env : List D} {o : Out} (h : sWhile c body env = some o) : ∃ n, sWh c body n env = some o := by
  unfold sWhile at h
  split at h
  · rename_i ex
    cases h
    exact ex.choose_spec
  · cases h
theorem ss_while (Γl : Ctx) {c : Expr} {body : List Stmt} {pos : Pos} {fc : TF} {b : SF} (hp : PassesOwn (model X.prog X.w) X.A X.env X.xe) (l : LeC Γl Γ = true) (hc : STs X Γl c fc Γ2) (hb : SSs X ⟨L.ρ, Γ', Γl, L.pin, L.wx⟩ Γ2 body b Γl) (l2 : LeC Γ' Γ2 = true) : SS X L Γ (.While c body [] pos) (sWhile fc b) Γ' := by
  obtain ⟨tc, pc, qc⟩ := hc
  obtain ⟨tb, pb, qb⟩ := hb
  refine ⟨_, ps_while hp pc pb, fun B σ env F H o E r e k => ?_⟩
  obtain ⟨n, e⟩ := sWhile_run e
  obtain ⟨F2, u, r2⟩ := r.down l
  refine ⟨fun m σ' H => ∃ env' F3, Same F F3 ∧ Rel X.K B Γl σ' env' F3 H ∧ Kp L σ env σ' env' ∧ sWh fc b m env' = some o, ⟨n, env, F2, u, r2, .refl, e⟩, ?_⟩
  rintro m σ3 H3 ⟨env3, F3, u3, r3, kp3, e3⟩
  cases m with
  | zero => cases e3
  | succ m =>
    obtain ⟨bb, hb, e3⟩ := Option.bind_eq_some_iff.mp e3
    refine qc B σ3 env3 F3 H3 bb _ r3 hb fun F4 H4 s4 t4 r4 => ?_
    cases bb with
    | true =>
      rw [if_pos rfl] at e3 ⊢
      obtain ⟨o1, ho1, e3⟩ := Option.bind_eq_some_iff.mp e3
      refine ⟨fun σ' H => ∃ env' F3, Same F F3 ∧ Rel X.K B Γl σ' env' F3 H ∧ Kp L σ env σ' env' ∧ sWh fc b m env' = some o, fun σ' H' h => ⟨m, Nat.lt_succ_self _, h⟩, ?_⟩
      refine qb B σ3 env3 F4 H4 o1 _ r4 ho1 ?_
      cases o1 with
      | nx e' => exact fun σ6 F6 H6 s6 r6 kp6 => ⟨e', F6, (u3.trans s4).trans s6, r6, kp3.trans kp6, e3⟩
      | ct e' => exact fun σ6 F6 H6 s6 r6 kp6 => ⟨e', F6, (u3.trans s4).trans s6, r6, kp3.trans kp6, e3⟩
      | bk e' => cases e3; exact fun σ6 F6 H6 s6 r6 kp6 => k σ6 F6 H6 ((u3.trans s4).trans s6) r6 (kp3.trans kp6)
      | rt d => cases e3; exact ⟨fun v F6 H6 s6 r6 => k.1 v F6 H6 ((u3.trans s4).trans s6) r6, fun x ex c dd σ' F6 H6 s6 r6 => k.2 x ex c dd σ' F6 H6 ((u3.trans s4).trans s6) r6⟩
    | false =>
      rw [if_neg (by decide)] at e3 ⊢
      cases e3
      obtain ⟨F5, u5, r5⟩ := r4.down l2
      exact k σ3 F5 H4 ((u3.trans s4).trans u5) r5 kp3

def runF (ρ m N : Nat) (b : SF) : List D → Option D := fun ds => if ds.length = m then (b (ds ++ List.replicate (N - m) .none)).bind fun o => match o with | .rt d => some d | .nx _ => if ρ = 0 then some .none else none | _ => none else none
def ctx0 (m N : Nat) : Ctx := List.replicate m (some 0) ++ List.replicate (N - m) none
theorem slots0 : ∀ (n : Nat), Slots K F H (List.replicate n none) (List.replicate n none) (List.replicate n .none) (fun _ => 0)
  | 0 => fun _ => rfl
  | n + 1 => slots0 n
theorem slots_start (n : Nat) : ∀ {vs : List V} {ds : List D}, RpAll K F vs ds → Slots K F H (List.replicate ds.length (some 0) ++ List.replicate n none) (vs.map some ++ List.replicate n none) (ds ++ List.replicate n .none) (fun _ => 0)
  | _, _, .nil => slots0 n
  | _, _, .cons a b => ⟨_, fun _ => 0, fun _ => 0, rfl, ⟨a, fun _ => rfl⟩, slots_start n b, fun _ => rfl⟩
theorem fn_pure {P : Program} {w : World} {mg : Str → Option Value} {base : Heap} {x qual : Str} {st : Stmt} {f : Addr} {fd : FuncData} {N ps : List Str} {k ρ m : Nat} {b : SF} {Γ' : Ctx}
    (G : Fun K x qual st f fd) (S : FnScope N ps (defScope st)) (hm : ps.length = m := by rfl)
    (hb : ∀ (cdv : Value) (A : Around) (outer : List Env) (s : Shared) (H : Hp) (E : XK), Room k (A.deeper (PyProof.Rows.envOfC qual (defScope st) s.heap.objs.size f cdv)) →
      SSs (cxOf CX0 P w K mg base N qual (defScope st) f cdv A outer s H E).nox ⟨ρ, [], [], [], fun _ _ _ _ => True⟩ (ctx0 m N.length) (defBody st) b Γ') :
    FnOk P w K mg base CX0 (k + 1) f fd ps (Pure K m ρ (runF ρ m N.length b)) := by
  refine G.ok S (fun vs H Q E h => ?_) (fun cdv A outer s H vs Q E hr h => ?_)
  · obtain ⟨F, ds, d, _, h1, _⟩ := h
    omega
  obtain ⟨F, ds, d, sf, h1, h2, h3, h4⟩ := h
  obtain ⟨t, p, q⟩ := hb cdv A outer s H E hr
  refine ⟨t, p, ?_⟩
  have hl : ds.length = m := h2.length.symm.trans h1
  unfold runF at h3
  rw [if_pos hl] at h3
  obtain ⟨o, ho, h3⟩ := Option.bind_eq_some_iff.mp h3
  refine q ⟨H, F⟩ _ _ F H o _ ?_ ho ?_
  · refine ⟨fun _ => 0, ?_, ⟨sf, Same.refl _, Same.refl _, fun _ _ q => .inl q, fun _ => Nat.zero_le _, fun _ q => absurd q (Nat.lt_irrefl _)⟩⟩
    have z := slots_start (H := H) (N.length - m) h2
    unfold ctx0
    rw [hl] at z
    unfold L2.start
    rw [h1]
    exact z
  · cases o with
    | rt d' => cases h3; exact ⟨fun v F' H' s1 ⟨g, ow, ok⟩ => h4 v F' H' ⟨g, ow, ok⟩, fun _ _ _ _ _ _ _ _ _ _ => trivial⟩
    | nx env =>
      simp only at h3
      split at h3
      · rename_i c
        cases h3
        subst c
        intro σ' F' H' s1 r1 _
        obtain ⟨f1, sl, ok⟩ := r1
        exact h4 .non F' H' ⟨fun _ => 0, ⟨.non, fun _ => rfl⟩, ok.less fun a => Nat.zero_le _⟩
      · cases h3
    | bk e => cases h3
    | ct e => cases h3
end
end Pf

set_option Elab.async false
set_option linter.all false
set_option maxRecDepth 100000
set_option maxHeartbeats 4000000
namespace Pf
open PySem L2
section
variable {X : Cx} {L : Lp} {Γ Γ1 Γ2 Γ' : Ctx} {K : PySem.W.Frag} {F F' H H' : Hp} {B : Bs}
theorem Rp.vint {v : V} {i : Int} (h : Rp K F v (.int i)) : v = .int i := by cases h; rfl
theorem Rp.vbl {v : V} {i : Bool} (h : Rp K F v (.bool i)) : v = .bl i := by cases h; rfl
theorem Rp.vstr {v : V} {i : Str} (h : Rp K F v (.str i)) : v = .str i := by cases h; rfl
theorem Rp.vlst {v : V} {ds : List D} (h : Rp K F v (.list ds)) : ∃ a xs, v = .ref a ∧ SqL K F a xs ∧ RpAll K F xs ds := by cases h with | lst s r => exact ⟨_, _, rfl, s, r⟩
theorem Rp.vtup {v : V} {ds : List D} (h : Rp K F v (.tuple ds)) : ∃ a xs, v = .ref a ∧ F a = some (.tup xs) ∧ RpAll K F xs ds := by cases h with | tup s r => exact ⟨_, _, rfl, s, r⟩
theorem Rp.vdic {v : V} {kvs : List (D × D)} (h : Rp K F v (.dict kvs)) : ∃ a o vs, v = .ref a ∧ F a = some o ∧ DicO a o kvs vs ∧ RpAll K F vs (kvs.map (·.2)) := by cases h with | dic s q r => exact ⟨_, _, _, rfl, s, q, r⟩
theorem Bw.tup {n : Nat} {v : V} {ds : List D} (h : Bw K F H n (.tuple ds) v) : ∃ a xs, v = .ref a ∧ F a = some (.tup xs) ∧ RpAll K F xs ds := by
  cases n with
  | zero => exact Rp.vtup h
  | succ n =>
    cases n with
    | zero => exact Rp.vtup h
    | succ n => exact h.elim
theorem Bw.lst {n : Nat} {v : V} {ds : List D} (e : Sub F H) (hn : n ≤ 1) (h : Bw K F H n (.list ds) v) : ∃ a xs, v = .ref a ∧ SqL K H a xs ∧ RpAll K F xs ds := by
  match n, hn, h with
  | 0, _, h =>
    obtain ⟨a, xs, e1, s, r⟩ := Rp.vlst h
    exact ⟨a, xs, e1, sqL_up e s, r⟩
  | 1, _, ⟨a, xs, e1, s, r⟩ => exact ⟨a, xs, e1, SqL.of s, r.rp fun d v h => h⟩
theorem BwL.one {n : Nat} {ds : List D} {vs : List V} (h : BwL K F H [n] ds vs) : ∃ d v, ds = [d] ∧ vs = [v] ∧ Bw K F H n d v := by
  match ds, vs, h with
  | [d], [v], h => exact ⟨d, v, rfl, rfl, h.1⟩
  | [], _, h | _ :: _ :: _, _ :: _, h => simp [BwL] at h
  | [_], [], h | [_], _ :: _ :: _, h => simp [BwL] at h
theorem BwL.two {n m : Nat} {ds : List D} {vs : List V} (h : BwL K F H [n, m] ds vs) : ∃ d v d2 v2, ds = [d, d2] ∧ vs = [v, v2] ∧ Bw K F H n d v ∧ Bw K F H m d2 v2 := by
  match ds, vs, h with
  | [d, d2], [v, v2], h => exact ⟨d, v, d2, v2, rfl, rfl, h.1, h.2.1⟩
  | [], [], h | [], _ :: _, h | [_], [], h | [_], _ :: _, h | _ :: _ :: _ :: _, [], h | _ :: _ :: _ :: _, [_], h | _ :: _ :: _ :: _, [_, _], h | _ :: _ :: _ :: _, _ :: _ :: _ :: _, h => simp [BwL] at h
  | [_, _], [], h | [_, _], [_], h | [_, _], _ :: _ :: _ :: _, h => simp [BwL] at h

def iOp (C : Int → Int → Prop) [∀ i j, Decidable (C i j)] (f : Int → Int → D) : D → D → Option D
  | .int i, .int j => if C i j then some (f i j) else none
  | _, _ => none
def iOp0 (f : Int → Int → D) : D → D → Option D
  | .int i, .int j => some (f i j)
  | _, _ => none
theorem Bw.vint {n : Nat} {v : V} {i : Int} (e : Sub F H) (h : Bw K F H n (.int i) v) : v = .int i := (h.rp e n).vint
theorem s2_I {C : Int → Int → Prop} [∀ i j, Decidable (C i j)] {f : Int → Int → D} {g : Int → Int → V} {na nb : Nat} (h : ∀ K F i j, Rp K F (g i j) (f i j)) : S2 K (rI C g) na nb 0 (iOp C f) := by
  intro F H x y da db d Q s a b e k
  match da, db, a, b, e with
  | .int i, .int j, a, b, e =>
    simp only [iOp] at e
    split at e
    · rename_i c
      cases e
      exact ⟨i, j, a.vint s, b.vint s, c, k _ F H (got_val s (h _ _ _ _))⟩
    · cases e
theorem s2_I0 {f : Int → Int → D} {g : Int → Int → V} {na nb : Nat} (h : ∀ K F i j, Rp K F (g i j) (f i j)) : S2 K (rI0 g) na nb 0 (iOp0 f) := by
  intro F H x y da db d Q s a b e k
  match da, db, a, b, e with
  | .int i, .int j, a, b, e =>
    cases e
    exact ⟨i, j, a.vint s, b.vint s, k _ F H (got_val s (h _ _ _ _))⟩
instance : ∀ i j, Decidable (CMulW i j) := fun i j => by unfold CMulW; infer_instance
instance : ∀ i j, Decidable (CDivW i j) := fun i j => by unfold CDivW; infer_instance
instance : ∀ i j, Decidable (CPow i j) := fun i j => by unfold CPow; infer_instance
def pSub := iOp0 fun i j => .int (i - j)
def pDiv := iOp CDivW fun i j => .int (i / j)
def pMod := iOp (fun _ j => 0 < j) fun i j => .int (i % j)
def pPow := iOp CPow fun i j => .int (i ^ j.toNat)
theorem se_sub {a b : Expr} {pos : Pos} {fa fb : EF} {na nb : Nat} (ha : SB X Γ a fa na Γ1) (hb : SB X Γ1 b fb nb Γ2) : SE X Γ (.BinOp a .Sub b pos) (e2 pSub fa fb) 0 Γ2 := se_op op_sub (s2_I0 fun _ _ _ _ => .int _) ha hb
theorem se_div {a b : Expr} {pos : Pos} {fa fb : EF} {na nb : Nat} (ha : SB X Γ a fa na Γ1) (hb : SB X Γ1 b fb nb Γ2) : SE X Γ (.BinOp a .FloorDiv b pos) (e2 pDiv fa fb) 0 Γ2 := se_op op_fdivW (s2_I fun _ _ _ _ => .int _) ha hb
theorem se_mod {a b : Expr} {pos : Pos} {fa fb : EF} {na nb : Nat} (ha : SB X Γ a fa na Γ1) (hb : SB X Γ1 b fb nb Γ2) : SE X Γ (.BinOp a .Mod b pos) (e2 pMod fa fb) 0 Γ2 := se_op op_mod (s2_I fun _ _ _ _ => .int _) ha hb
theorem se_pow {a b : Expr} {pos : Pos} {fa fb : EF} {na nb : Nat} (ha : SB X Γ a fa na Γ1) (hb : SB X Γ1 b fb nb Γ2) : SE X Γ (.BinOp a .Pow b pos) (e2 pPow fa fb) 0 Γ2 := se_op op_pow (s2_I fun _ _ _ _ => .int _) ha hb
def pNeg : D → Option D
  | .int i => some (.int (-i))
  | _ => none
theorem se_neg {a : Expr} {pos : Pos} {fa : EF} {na : Nat} (ha : SB X Γ a fa na Γ1) : SE X Γ (.UnaryOp .USub a pos) (e1 pNeg fa) 0 Γ1 := by
  refine se_un un_neg (fun F H x da d Q s a e k => ?_) ha
  match da, a, e with
  | .int i, a, e => cases e; exact ⟨i, a.vint s, k _ F H (got_val s (.int _))⟩
def pAdd : D → D → Option D
  | .int i, .int j => some (.int (i + j))
  | .str x, .str y => if x.length + y.length ≤ 16777216 then some (.str (x ++ y)) else none
  | .tuple xs, .tuple ys => if xs.length + ys.length ≤ 16777216 then some (.tuple (xs ++ ys)) else none
  | _, _ => none
def rAddA (K : PySem.W.Frag) : R2 := fun x y H Q => rI0 (fun i j => .int (i + j)) x y H Q ∨ (∃ i j, x = .str i ∧ y = .str j ∧ i.length + j.length ≤ sizeLine ∧ Q (.str (i ++ j)) H) ∨ rCatA K x y H Q
theorem op_addA : OpR X (binaryOp .Add) (rAddA X.K) := op_add.or (op_add_str.or op_catA)
theorem s2_add {na nb : Nat} : S2 K (rAddA K) na nb 0 pAdd := by
  intro F H x y da db d Q s a b e k
  match da, db, a, b, e with
  | .int i, .int j, a, b, e => cases e; exact .inl ⟨i, j, a.vint s, b.vint s, k _ F H (got_val s (.int _))⟩
  | .str i, .str j, a, b, e =>
    simp only [pAdd] at e
    split at e
    · rename_i c
      cases e
      exact .inr (.inl ⟨i, j, (a.rp s na).vstr, (b.rp s nb).vstr, szLine c, k _ F H (got_val s (.str _))⟩)
    · cases e
  | .tuple ds, .tuple es, a, b, e =>
    simp only [pAdd] at e
    split at e
    · rename_i c
      cases e
      obtain ⟨p, xs, rfl, s1, r1⟩ := a.tup
      obtain ⟨q, ys, rfl, s2, r2⟩ := b.tup
      refine .inr (.inr ⟨p, q, xs, ys, rfl, rfl, SqT.of (s _ _ s1), SqT.of (s _ _ s2), by rw [r1.length, r2.length]; exact szLine c, fun h => ?_, fun h h2 => ?_, fun h h2 z hz => ?_⟩)
      · subst h
        cases r1
        exact k _ F H (got_val s (.tup s2 r2))
      · subst h2
        cases r2
        have k' : ∀ v F' H', Got K F H F' H' 0 (.tuple ds) v → Q v H' := by simpa using k
        exact k' _ F H (got_val s (.tup s1 r1))
      · exact k _ _ _ (got_newT s hz (r1.append r2))
    · cases e
theorem se_add {a b : Expr} {pos : Pos} {fa fb : EF} {na nb : Nat} (ha : SB X Γ a fa na Γ1) (hb : SB X Γ1 b fb nb Γ2) : SE X Γ (.BinOp a .Add b pos) (e2 pAdd fa fb) 0 Γ2 := se_op op_addA s2_add ha hb
def pMul := iOp CMulW fun i j => .int (i * j)
theorem se_mul {a b : Expr} {pos : Pos} {fa fb : EF} {na nb : Nat} (ha : SB X Γ a fa na Γ1) (hb : SB X Γ1 b fb nb Γ2) : SE X Γ (.BinOp a .Mult b pos) (e2 pMul fa fb) 0 Γ2 := se_op op_mulW (s2_I fun _ _ _ _ => .int _) ha hb
def pLt := iOp0 fun i j => .bool (decide (i < j))
def pGt := iOp0 fun i j => .bool (decide (j < i))
def pGe := iOp0 fun i j => .bool (decide (j ≤ i))
section
variable {a b : Expr} {pos : Pos} {fa fb : EF} {na nb : Nat}
theorem st_lt (ha : SB X Γ a fa na Γ1) (hb : SB X Γ1 b fb nb Γ2) : STs X Γ (.Compare a [.Lt] [b] pos) (tV (e2 pLt fa fb)) Γ2 := st_cmp op_lt (s2_I0 fun _ _ _ _ => .bl _) ha hb (nomark _)
theorem st_gt (ha : SB X Γ a fa na Γ1) (hb : SB X Γ1 b fb nb Γ2) : STs X Γ (.Compare a [.Gt] [b] pos) (tV (e2 pGt fa fb)) Γ2 := st_cmp op_gt (s2_I0 fun _ _ _ _ => .bl _) ha hb (nomark _)
theorem st_ge (ha : SB X Γ a fa na Γ1) (hb : SB X Γ1 b fb nb Γ2) : STs X Γ (.Compare a [.GtE] [b] pos) (tV (e2 pGe fa fb)) Γ2 := st_cmp op_ge (s2_I0 fun _ _ _ _ => .bl _) ha hb (nomark _)
end
def scalD : D → D → Bool
  | .none, .none => true | .none, .int _ => true | .int _, .none => true | .none, .bool _ => true | .bool _, .none => true | .none, .str _ => true | .str _, .none => true
  | .int _, .int _ => true | .bool _, .bool _ => true | .str _, .str _ => true
  | .int _, .str _ => true | .str _, .int _ => true | .bool _, .str _ => true | .str _, .bool _ => true
  | _, _ => false
def eqD (x y : D) : Option Bool := if scalD x y then some (PyData.eqv x y) else if nd x && nd y && SeqAt.shaped x && SeqAt.shaped y then some (PyData.eqv x y) else none
def pEq : D → D → Option D := fun x y => (eqD x y).map .bool
def pNe : D → D → Option D := fun x y => (eqD x y).map fun b => .bool (!b)
theorem scal_of {v u : V} {d e : D} (h : Rp K F v d) (k : Rp K F u e) (c : scalD d e = true) : scal v u = true ∧ decide (v = u) = PyData.eqv d e := by
  cases h <;> cases k <;> simp [scalD] at c <;> simp [scal, PyData.eqv, Bool.beq_eq_decide_eq]
def rEqA (K : PySem.W.Frag) : R2 := fun x y H Q => rEq x y H Q ∨ rEqD K x y H Q
def rNeA (K : PySem.W.Frag) : R2 := fun x y H Q => rNe x y H Q ∨ rNeD K x y H Q
theorem op_eqA (hu : X.A.units + 64 < cLine) : OpR X (compareOp .Eq) (rEqA X.K) := op_eq.or (op_eqD hu)
theorem op_neA (hu : X.A.units + 64 < cLine) : OpR X (compareOp .NotEq) (rNeA X.K) := op_ne.or (op_neD hu)
theorem s2_eq {na nb : Nat} : S2 K (rEqA K) na nb 0 pEq := by
  intro F H x y da db d Q s a b e k
  obtain ⟨bb, hb, e⟩ := Option.map_eq_some_iff.mp e
  subst e
  unfold eqD at hb
  split at hb
  · rename_i c
    cases hb
    obtain ⟨h1, h2⟩ := scal_of (a.rp s na) (b.rp s nb) c
    exact .inl ⟨h1, by rw [h2]; exact k _ F H (got_val s (.bl _))⟩
  · split at hb
    · rename_i c
      simp only [Bool.and_eq_true] at c
      cases hb
      exact .inr ⟨da, db, (a.rp s na).dp c.1.1.1, (b.rp s nb).dp c.1.1.2, c.1.2, c.2, k _ F H (got_val s (.bl _))⟩
    · cases hb
theorem s2_ne {na nb : Nat} : S2 K (rNeA K) na nb 0 pNe := by
  intro F H x y da db d Q s a b e k
  obtain ⟨bb, hb, e⟩ := Option.map_eq_some_iff.mp e
  subst e
  unfold eqD at hb
  split at hb
  · rename_i c
    cases hb
    obtain ⟨h1, h2⟩ := scal_of (a.rp s na) (b.rp s nb) c
    exact .inl ⟨h1, by rw [h2]; exact k _ F H (got_val s (.bl _))⟩
  · split at hb
    · rename_i c
      simp only [Bool.and_eq_true] at c
      cases hb
      exact .inr ⟨da, db, (a.rp s na).dp c.1.1.1, (b.rp s nb).dp c.1.1.2, c.1.2, c.2, k _ F H (got_val s (.bl _))⟩
    · cases hb
section
variable {a b : Expr} {pos : Pos} {fa fb : EF} {na nb : Nat}
theorem se_eq (hu : X.A.units + 64 < cLine) (ha : SB X Γ a fa na Γ1) (hb : SB X Γ1 b fb nb Γ2) : SE X Γ (.Compare a [.Eq] [b] pos) (e2 pEq fa fb) 0 Γ2 := se_cmp (op_eqA hu) s2_eq ha hb (nomark _)
theorem se_ne (hu : X.A.units + 64 < cLine) (ha : SB X Γ a fa na Γ1) (hb : SB X Γ1 b fb nb Γ2) : SE X Γ (.Compare a [.NotEq] [b] pos) (e2 pNe fa fb) 0 Γ2 := se_cmp (op_neA hu) s2_ne ha hb (nomark _)
theorem st_eq (hu : X.A.units + 64 < cLine) (ha : SB X Γ a fa na Γ1) (hb : SB X Γ1 b fb nb Γ2) : STs X Γ (.Compare a [.Eq] [b] pos) (tV (e2 pEq fa fb)) Γ2 := st_cmp (op_eqA hu) s2_eq ha hb (nomark _)
theorem st_ne (hu : X.A.units + 64 < cLine) (ha : SB X Γ a fa na Γ1) (hb : SB X Γ1 b fb nb Γ2) : STs X Γ (.Compare a [.NotEq] [b] pos) (tV (e2 pNe fa fb)) Γ2 := st_cmp (op_neA hu) s2_ne ha hb (nomark _)
end
def isNoneD : D → Bool
  | .none => true
  | _ => false
theorem Rp.non_iff {v : V} {d : D} (h : Rp K F v d) : decide (v = .non) = isNoneD d := by
  cases h <;> simp [isNoneD]
def eIsN (neg : Bool) (f : EF) : EF := fun env => (f env).map fun d => .bool (if neg then !isNoneD d else isNoneD d)
theorem se_isN {a : Expr} {pos : Pos} {j pos'} {fa : EF} {na : Nat} (ha : SB X Γ a fa na Γ1) : SE X Γ (.Compare a [.Is] [.Constant .none j pos'] pos) (eIsN false fa) 0 Γ1 := by
  obtain ⟨t, p, q⟩ := ha
  refine ⟨_, pe_cmp (pc_isN p) rfl, fun B σ env F H d Q r e k => ?_⟩
  obtain ⟨d', hd, e⟩ := Option.map_eq_some_iff.mp e
  refine q B σ env F H d' _ r hd fun v F' H' s1 s2 w b => ?_
  subst e
  rw [(b.rp w.fh na).non_iff]
  exact k _ F' H' s1 s2 (w.t0 (.bl _))
def tNon (neg : Bool) (f : EF) : TF := fun env => (f env).map fun d => if neg then !isNoneD d else isNoneD d
theorem st_isN {a : Expr} {pos : Pos} {j pos'} {fa : EF} {na : Nat} (ha : SB X Γ a fa na Γ1) : STs X Γ (.Compare a [.Is] [.Constant .none j pos'] pos) (tNon false fa) Γ1 := by
  obtain ⟨t, p, q⟩ := ha
  refine ⟨_, pt_cmp (pc_isN p) rfl, fun B σ env F H b Q r e k => ?_⟩
  obtain ⟨d', hd, e⟩ := Option.map_eq_some_iff.mp e
  refine q B σ env F H d' _ r hd fun v F' H' s1 s2 w b => ?_
  subst e
  rw [(b.rp w.fh na).non_iff]
  exact ⟨_, rfl, k F' H' s1 s2 w⟩
def flatD : D → Bool
  | .none => true
  | .bool _ => true
  | .int _ => true
  | .str _ => true
  | _ => false
def inD (x : D) : D → Option Bool
  | .list ds => if flatD x && ds.all flatD then some (ds.any fun z => PyData.eqv z x) else if nd x && ndAll ds && SeqAt.shaped x && SeqAt.shaped (.list ds) then some (ds.any fun z => PyData.eqv z x) else none
  | .tuple ds => if flatD x && ds.all flatD then some (ds.any fun z => PyData.eqv z x) else none
  | .str y => match x with | .str i => some (!(Builtin.Str.occurrences y i 0 y.length 1).isEmpty) | _ => none
  | _ => none
def pIn : D → D → Option D := fun x y => (inD x y).map .bool
def rInA (K : PySem.W.Frag) : R2 := fun x y H Q => rInD K x y H Q ∨ rIn K false x y H Q ∨ (∃ i j, x = .str i ∧ y = .str j ∧ Q (.bl (!(Builtin.Str.occurrences j i 0 j.length 1).isEmpty)) H)
theorem op_inA (hu : X.A.units + 65 < cLine) : OpR X (compareOp .In) (rInA X.K) := (op_inD hu).or (op_in_seq.or op_in_str)
theorem Rp.flat {v : V} {d : D} (h : Rp K F v d) (e : flatD d = true) : flatV v = true := by cases h <;> simp_all [flatD, flatV]
theorem RpAll.flat : ∀ {vs : List V} {ds : List D}, RpAll K F vs ds → ds.all flatD = true → vs.all flatV = true
  | _, _, .nil, _ => rfl
  | _, _, .cons a b, e => by
    simp only [List.all_cons, Bool.and_eq_true] at e ⊢
    exact ⟨a.flat e.1, RpAll.flat b e.2⟩
theorem eqV_eqv {v u : V} {d e : D} (h : Rp K F v d) (k : Rp K F u e) (f : flatD d = true) (g : flatD e = true) : eqV v u = PyData.eqv d e := by
  cases h <;> simp [flatD] at f <;> cases k <;> simp [flatD] at g <;> simp [eqV, PyData.eqv]
theorem inV_any {u : V} {e : D} (k : Rp K F u e) (g : flatD e = true) : ∀ {vs : List V} {ds : List D}, RpAll K F vs ds → ds.all flatD = true → inV u vs = ds.any fun z => PyData.eqv z e
  | _, _, .nil, _ => rfl
  | _, _, .cons a b, f => by
    simp only [List.all_cons, Bool.and_eq_true] at f
    have := inV_any k g b f.2
    simp only [inV, List.any_cons] at this ⊢
    rw [this, eqV_eqv a k f.1 g]
theorem in_cases {da db : D} {b : Bool} {x y : V} {na nb : Nat} (s : Sub F H) (hx : Bw K F H na da x) (hy : Bw K F H nb db y) (e : inD da db = some b) :
    (∃ d ds, Dp K H x d ∧ Dp K H y (.list ds) ∧ SeqAt.shaped d = true ∧ SeqAt.shaped (.list ds) = true ∧ b = ds.any fun z => PyData.eqv z d) ∨
    (∃ p xs, y = .ref p ∧ (SqL K H p xs ∨ SqT K H p xs) ∧ flatV x = true ∧ xs.all flatV = true ∧ b = inV x xs) ∨
    ∃ i j, x = .str i ∧ y = .str j ∧ b = !(Builtin.Str.occurrences j i 0 j.length 1).isEmpty := by
  match db, hy, e with
  | .list ds, hy, e =>
    simp only [inD] at e
    split at e
    · rename_i c
      simp only [Bool.and_eq_true] at c
      have hy' := hy.rp s nb
      obtain ⟨a, xs, e1, s1, r1⟩ := hy'.vlst
      have hx' := hx.rp s na
      exact .inr (.inl ⟨a, xs, e1, .inl s1, hx'.flat c.1, r1.flat c.2, by rw [inV_any hx' c.1 r1 c.2]; exact (Option.some.inj e).symm⟩)
    split at e
    · rename_i c
      simp only [Bool.and_eq_true] at c
      exact .inl ⟨da, ds, (hx.rp s na).dp c.1.1.1, (hy.rp s nb).dp (by simpa [nd] using c.1.1.2), c.1.2, c.2, (Option.some.inj e).symm⟩
    · cases e
  | .tuple ds, hy, e =>
    simp only [inD] at e
    split at e
    · rename_i c
      simp only [Bool.and_eq_true] at c
      have hy' := hy.rp s nb
      obtain ⟨a, xs, e1, s1, r1⟩ := hy'.vtup
      have hx' := hx.rp s na
      exact .inr (.inl ⟨a, xs, e1, .inr (SqT.of s1), hx'.flat c.1, r1.flat c.2, by rw [inV_any hx' c.1 r1 c.2]; exact (Option.some.inj e).symm⟩)
    · cases e
  | .str j, hy, e =>
    match da, hx, e with
    | .str i, hx, e => exact .inr (.inr ⟨i, j, (hx.rp s na).vstr, (hy.rp s nb).vstr, (Option.some.inj e).symm⟩)
    | .none, _, e | .bool _, _, e | .int _, _, e | .list _, _, e | .tuple _, _, e | .dict _, _, e => cases e
theorem s2_in {na nb : Nat} : S2 K (rInA K) na nb 0 pIn := by
  intro F H x y da db d Q s a b e k
  obtain ⟨bb, hb, e⟩ := Option.map_eq_some_iff.mp e
  subst e
  have q := k _ F H (got_val s (.bl bb))
  rcases in_cases s a b hb with ⟨d, ds, h1, h2, h3, h4, rfl⟩ | ⟨p, xs, h1, h2, h3, h4, rfl⟩ | ⟨i, j, h1, h2, rfl⟩
  · exact .inl ⟨d, ds, h1, h2, h3, h4, q⟩
  · exact .inr (.inl ⟨p, xs, h1, h2, h3, h4, q⟩)
  · exact .inr (.inr ⟨i, j, h1, h2, q⟩)
section
variable {a b : Expr} {pos : Pos} {fa fb : EF} {na nb : Nat}
theorem st_in (hu : X.A.units + 65 < cLine) (ha : SB X Γ a fa na Γ1) (hb : SB X Γ1 b fb nb Γ2) (hm : behindInMarks .In b = false := by rfl) : STs X Γ (.Compare a [.In] [b] pos) (tV (e2 pIn fa fb)) Γ2 := st_cmp (op_inA hu) s2_in ha hb hm
end

def pIx : D → D → Option D
  | .list ds, .int i => atI ds i
  | .tuple ds, .int i => atI ds i
  | .str z, .int i => if z.length ≤ 16777216 then (atI z.cps.toList i).map fun c => .str ⟨#[c]⟩ else none
  | _, _ => none
theorem atI_rp {vs : List V} {ds : List D} {i : Int} {d : D} (r : RpAll K F vs ds) (h : atI ds i = some d) : ∃ v, atI vs i = some v ∧ Rp K F v d := by
  unfold atI at h ⊢
  rw [r.length]
  obtain ⟨j, hj, h⟩ := Option.bind_eq_some_iff.mp h
  rw [hj]
  exact r.get h
theorem s2_ix {na nb : Nat} (hn : na ≤ 1) : S2 K (rIx K) na nb 0 pIx := by
  intro F H x y da db d Q s a b e k
  match da, db, a, b, e with
  | .list ds, .int i, a, b, e =>
    obtain ⟨p, xs, rfl, s1, r1⟩ := a.lst s hn
    obtain ⟨v, h1, h2⟩ := atI_rp r1 e
    exact .inl ⟨p, xs, i, v, rfl, b.vint s, s1, h1, k _ F H (got_val s h2)⟩
  | .tuple ds, .int i, a, b, e =>
    obtain ⟨p, xs, rfl, s1, r1⟩ := a.tup
    obtain ⟨v, h1, h2⟩ := atI_rp r1 e
    exact .inr (.inl ⟨p, xs, i, v, rfl, b.vint s, SqT.of (s _ _ s1), h1, k _ F H (got_val s h2)⟩)
  | .str z, .int i, a, b, e =>
    simp only [pIx] at e
    split at e
    · rename_i c
      obtain ⟨c', h1, rfl⟩ := Option.map_eq_some_iff.mp e
      exact .inr (.inr ⟨z, i, c', (a.rp s na).vstr, b.vint s, szLine c, h1, k _ F H (got_val s (.str _))⟩)
    · cases e
theorem se_ixA {a b : Expr} {pos : Pos} {fa fb : EF} {na nb : Nat} (ha : SB X Γ a fa na Γ1) (hb : SB X Γ1 b fb nb Γ2) (hn : na ≤ 1 := by decide) (hp : PlainIx b := by exact fun _ _ => rfl) : SE X Γ (.Subscript a b pos) (e2 pIx fa fb) 0 Γ2 := se_ix ix_seq (s2_ix hn) ha hb hp

def oN : List D → Option (Option Int) := fun _ => some none
def oS (f : EF) : List D → Option (Option Int) := fun env => (f env).bind fun d => match d with | .int i => some (some i) | _ => none
def SO (X : Cx) (Γ : Ctx) (e : Option Expr) (f : List D → Option (Option Int)) (Γ' : Ctx) : Prop :=
  ∃ t : TO, PO X e t ∧ ∀ (B : Bs) (σ : St) (env : List D) (F H : Hp) (o : Option Int) (Q : Option Int → Hp → Prop), Rel X.K B Γ σ env F H → f env = some o →
    (∀ F' H', Same F F' → Same H H' → Rel X.K B Γ' σ env F' H' → Q o H') → t σ H Q
theorem so_none : SO X Γ none oN Γ := ⟨_, po_none, fun B σ env F H o Q r e k => by cases e; exact k F H (Same.refl _) (Same.refl _) r⟩
theorem so_some {e : Expr} {f : EF} {n : Nat} (h : SB X Γ e f n Γ') : SO X Γ (some e) (oS f) Γ' := by
  obtain ⟨t, p, q⟩ := h
  refine ⟨_, po_some p, fun B σ env F H o Q r e k => ?_⟩
  obtain ⟨d, hd, e⟩ := Option.bind_eq_some_iff.mp e
  refine q B σ env F H d _ r hd fun v F' H' s1 s2 w b => ?_
  cases d with
  | int i => cases e; exact ⟨i, b.vint w.fh, k F' H' s1 s2 w⟩
  | _ => cases e
def cutD {α : Type} (xs : List α) (lo hi : Option Int) : List α := (xs.drop (HT.sIx xs.length 0 lo)).take (HT.sIx xs.length xs.length hi - HT.sIx xs.length 0 lo)
theorem cut_rp {vs : List V} {ds : List D} (r : RpAll K F vs ds) (lo hi : Option Int) : RpAll K F (cutV vs lo hi) (cutD ds lo hi) := by
  unfold cutV cutD
  rw [r.length]
  exact (r.drop _).take _
def eSl (g : D → Option Int → Option Int → Option D) (fa : EF) (fl fh : List D → Option (Option Int)) : EF := fun env => (fa env).bind fun x => (fl env).bind fun l => (fh env).bind fun h => g x l h
theorem se_sl {a : Expr} {lo hi : Option Expr} {p2 pos : Pos} {fa : EF} {fl fh : List D → Option (Option Int)} {na n : Nat} {r : V → Option Int → Option Int → Hp → VK → Prop} {g : D → Option Int → Option Int → Option D} {Γ3 : Ctx}
    (hs : SlR X r) (hr : ∀ (F H : Hp) (x : V) (da d : D) (l h : Option Int) (Q : VK), Sub F H → Bw X.K F H na da x → g da l h = some d → (∀ v F' H', Got X.K F H F' H' n d v → Q v H') → r x l h H Q)
    (ha : SB X Γ a fa na Γ1) (hl : SO X Γ1 lo fl Γ2) (hh : SO X Γ2 hi fh Γ3) : SE X Γ (.Subscript a (.Slice lo hi none p2) pos) (eSl g fa fl fh) n Γ3 := by
  obtain ⟨ta, pa, qa⟩ := ha
  obtain ⟨tl, pl, ql⟩ := hl
  obtain ⟨th, ph, qh⟩ := hh
  refine ⟨_, pe_slice hs pa pl ph, fun B σ env F H d Q r e k => ?_⟩
  obtain ⟨x, hx, e⟩ := Option.bind_eq_some_iff.mp e
  obtain ⟨l, hl, e⟩ := Option.bind_eq_some_iff.mp e
  obtain ⟨h, hh, e⟩ := Option.bind_eq_some_iff.mp e
  refine qa B σ env F H x _ r hx fun v F1 H1 s1 t1 r1 b1 => ?_
  refine ql B σ env F1 H1 l _ r1 hl fun F2 H2 s2 t2 r2 => ?_
  refine qh B σ env F2 H2 h _ r2 hh fun F3 H3 s3 t3 r3 => ?_
  refine hr F3 H3 v x d l h Q r3.fh (b1.mono (s2.trans s3) (t2.trans t3) na) e fun w F4 H4 got => ?_
  obtain ⟨s4, t4, r4⟩ := r3.got got
  exact k w F4 H4 (((s1.trans s2).trans s3).trans s4) (((t1.trans t2).trans t3).trans t4) r4
def pSlL (d : D) (l h : Option Int) : Option D := match d with
  | .list ds => some (.list (cutD ds l h))
  | _ => none
theorem se_slL {a : Expr} {lo hi : Option Expr} {p2 pos : Pos} {fa : EF} {fl fh : List D → Option (Option Int)} {na : Nat} {Γ3 : Ctx} (ha : SB X Γ a fa na Γ1) (hl : SO X Γ1 lo fl Γ2) (hh : SO X Γ2 hi fh Γ3) (hn : na ≤ 1 := by decide) :
    SE X Γ (.Subscript a (.Slice lo hi none p2) pos) (eSl pSlL fa fl fh) 1 Γ3 := by
  refine se_sl sl_list (fun F H x da d l h Q s a e k => ?_) ha hl hh
  match da, a, e with
  | .list ds, a, e =>
    cases e
    obtain ⟨p, xs, rfl, s1, r1⟩ := a.lst s hn
    exact ⟨p, xs, rfl, s1, fun z hz => k _ _ _ (got_newL s hz (cut_rp r1 l h))⟩
mutual
inductive NIs (H : Hp) : NestedKey → V → Prop
  | non : NIs H .none .non
  | bl (b : Bool) : NIs H (.num (if b = true then 1 else 0)) (.bl b)
  | int (i : Int) : NIs H (.num i) (.int i)
  | tup {a : Addr} {xs : List V} {ks : List NestedKey} : H a = some (.tup xs) → NAll H ks xs → NIs H (.tup ks) (.ref a)
inductive NAll (H : Hp) : List NestedKey → List V → Prop
  | nil : NAll H [] []
  | cons {k : NestedKey} {v : V} {ks : List NestedKey} {vs : List V} : NIs H k v → NAll H ks vs → NAll H (k :: ks) (v :: vs)
end
mutual
theorem NIs.up {F H : Hp} (s : Sub F H) : ∀ {k : NestedKey} {v : V}, NIs F k v → NIs H k v
  | _, _, .non => .non
  | _, _, .bl b => .bl b
  | _, _, .int i => .int i
  | _, _, .tup h r => .tup (s _ _ h) (NAll.up s r)
theorem NAll.up {F H : Hp} (s : Sub F H) : ∀ {ks : List NestedKey} {vs : List V}, NAll F ks vs → NAll H ks vs
  | _, _, .nil => .nil
  | _, _, .cons a b => .cons (NIs.up s a) (NAll.up s b)
end
mutual
theorem Rp.nis {K : PySem.W.Frag} {F : Hp} : ∀ {v : V} {d : D} {k : NestedKey}, Rp K F v d → keyN d = some k → NIs F k v
  | _, _, _, .non, e => by simp only [keyN, Option.some.injEq] at e; subst e; exact .non
  | _, _, _, .bl b, e => by simp only [keyN, Option.some.injEq] at e; subst e; exact .bl b
  | _, _, _, .int i, e => by simp only [keyN, Option.some.injEq] at e; subst e; exact .int i
  | _, _, _, .tup h r, e => by
    simp only [keyN] at e
    obtain ⟨ks, h1, rfl⟩ := Option.map_eq_some_iff.mp e
    exact .tup h (RpAll.nis r h1)
  | _, _, _, .str _, e => by simp [keyN] at e
  | _, _, _, .lst _ _, e => by simp [keyN] at e
  | _, _, _, .dic _ _ _, e => by simp [keyN] at e
theorem RpAll.nis {K : PySem.W.Frag} {F : Hp} : ∀ {vs : List V} {ds : List D} {ks : List NestedKey}, RpAll K F vs ds → keyNs ds = some ks → NAll F ks vs
  | _, _, _, .nil, e => by simp only [keyNs, Option.some.injEq] at e; subst e; exact .nil
  | _, _, _, .cons a b, e => by
    simp only [keyNs] at e
    obtain ⟨k, h1, e⟩ := Option.bind_eq_some_iff.mp e
    obtain ⟨ks, h2, rfl⟩ := Option.map_eq_some_iff.mp e
    exact .cons (Rp.nis a h1) (RpAll.nis b h2)
end
theorem Rp.nisT {K : PySem.W.Frag} {F : Hp} {v : V} {d : D} {k : NestedKey} (h : Rp K F v d) (e : keyT d = some k) : NIs F k v ∧ k.depth ≤ 8 ∧ ∃ b, v = .ref b := by
  cases h with
  | tup h r =>
    simp only [keyT] at e
    obtain ⟨ks, h1, e⟩ := Option.bind_eq_some_iff.mp e
    split at e
    · rename_i c
      cases e
      exact ⟨.tup h (r.nis h1), c, _, rfl⟩
    · cases e
  | _ => simp [keyT] at e
mutual
theorem NIs.heap {P : Program} {w : World} {H : Hp} {h : Heap} (ok : HOk P w H h) : ∀ {k : NestedKey} {v : V} {u : Value}, NIs H k v → RelV v u → NestedIs h k u
  | _, _, _, .non, r => by cases (show _ = Value.none from r); exact .none
  | _, _, _, .bl b, r => by cases (show _ = Value.bool b from r); exact .bool rfl
  | _, _, _, .int i, r => by obtain ⟨t, q⟩ := (show ∃ t, _ = Value.int i t from r); subst q; exact .int _ _
  | _, _, _, .tup (a := a) (xs := xs) e x, r => by
    cases (show _ = Value.ref a from r)
    obtain ⟨_, its, rv, o, h1, h2, n, h3⟩ := (show ObjOk P w H h a (.tup xs) from ok a _ e)
    exact .tup h1 h2 h3 (by simpa using NAll.heap ok x rv)
theorem NAll.heap {P : Program} {w : World} {H : Hp} {h : Heap} (ok : HOk P w H h) : ∀ {ks : List NestedKey} {vs : List V} {us : List Value}, NAll H ks vs → Vals vs us → NestedAll h ks us
  | _, _, _, .nil, r => by cases r; exact .nil
  | _, _, _, .cons a b, r => by
    cases r with
    | cons r1 r2 => exact .cons (NIs.heap ok a r1) (NAll.heap ok b r2)
end
mutual
theorem NIs.hash {H : Hp} (w w' : World) : ∀ {k : NestedKey} {v : V}, NIs H k v → k.hash w = k.hash w'
  | _, _, .non => rfl
  | _, _, .bl b => rfl
  | _, _, .int i => rfl
  | _, _, .tup h r => by simp only [NestedKey.hash]; rw [NAll.hash w w' r]
theorem NAll.hash {H : Hp} (w w' : World) : ∀ {ks : List NestedKey} {vs : List V}, NAll H ks vs → NestedKey.hashes w ks = NestedKey.hashes w' ks
  | _, _, .nil => rfl
  | _, _, .cons a b => by simp only [NestedKey.hashes]; rw [NIs.hash w w' a, NAll.hash w w' b]
end
def KeysN (H : Hp) (l : NL) : Prop := ∀ p ∈ l, NIs H p.1 (.ref p.2.1) ∧ p.1.depth ≤ 8
theorem KeysN.up {F H : Hp} (s : Sub F H) {l : NL} (h : KeysN F l) : KeysN H l := fun p hp => ⟨(h p hp).1.up s, (h p hp).2⟩
theorem nrel_mem : ∀ {l : NL} {xs : List (NestedKey × Addr × Value)}, NRel l xs → ∀ x ∈ xs, ∃ p ∈ l, p.1 = x.1 ∧ p.2.1 = x.2.1 := by
  intro l xs r
  unfold NRel at r
  induction r with
  | nil => intro x hx; cases hx
  | cons e t ih =>
    intro x hx
    rcases List.mem_cons.mp hx with rfl | hx
    · exact ⟨_, List.mem_cons_self, e.1, e.2.1⟩
    · obtain ⟨p, hp, e⟩ := ih x hx
      exact ⟨p, List.mem_cons_of_mem _ hp, e⟩
theorem dn_of {P : Program} {w : World} {H : Hp} {h : Heap} {a : Addr} {l : NL} (ok : HOk P w H h) (e : H a = some (DN a l)) (hk : KeysN H l) : l.length ≤ sizeLine ∧ (a == sysModules) = false ∧ ∃ xs, NRel l xs ∧ h.DictOfH (nestedKind P w) a xs := by
  obtain ⟨⟨z, hd, w', xs, o, es, ep, r, h1, h2, h3, h4, h5⟩, _⟩ := (show ObjOk P w H h a (.ext (DNp a l)) from ok a _ e)
  have at_ : ∀ x ∈ xs, NIs H x.1 (.ref x.2.1) ∧ x.1.depth ≤ 8 := fun x hx => by
    obtain ⟨p, hp, e1, e2⟩ := nrel_mem r x hx
    have := hk p hp
    rw [e1, e2] at this
    exact this
  refine ⟨z, hd, xs, r, o, es, ep, h1, h2, h3, ?_, fun x hx => ⟨(at_ x hx).1.heap ok rfl, (at_ x hx).2⟩, h5⟩
  rw [h4]
  exact List.map_congr_left fun x hx => by unfold entryOfKey; rw [(at_ x hx).1.hash w' w]; rfl
inductive RpN (K : PySem.W.Frag) (F : Hp) : List (D × D) → NL → Prop
  | nil : RpN K F [] []
  | cons {kd vd : D} {k : NestedKey} {b : Addr} {v : V} {r : List (D × D)} {l : NL} : keyT kd = some k → Rp K F (.ref b) kd → Rp K F v vd → RpN K F r l → RpN K F ((kd, vd) :: r) ((k, b, v) :: l)
theorem rpN_of {K : PySem.W.Frag} {F : Hp} : ∀ {r : List (D × D)} {l : NL}, r.map (fun p => keyT p.1) = l.map (fun p => some p.1) → RpAll K F (flV l) ((flN r).map (·.2)) → RpN K F r l
  | [], [], _, _ => .nil
  | (kd, vd) :: r, (k, b, v) :: l, h, q => by
    simp only [List.map_cons, List.cons.injEq] at h
    simp only [flN, flV, List.map_cons] at q
    cases q with
    | cons q1 q => cases q with
      | cons q2 q => exact .cons h.1 q1 q2 (rpN_of h.2 q)
  | [], _ :: _, h, _ => by simp at h
  | _ :: _, [], h, _ => by simp at h
theorem RpN.keys {K : PySem.W.Frag} {F : Hp} {r : List (D × D)} {l : NL} (h : RpN K F r l) : r.map (fun p => keyT p.1) = l.map (fun p => some p.1) := by
  induction h with
  | nil => rfl
  | cons h1 _ _ _ ih => simp only [List.map_cons]; rw [h1, ih]
theorem RpN.all {K : PySem.W.Frag} {F : Hp} {r : List (D × D)} {l : NL} (h : RpN K F r l) : RpAll K F (flV l) ((flN r).map (·.2)) := by
  induction h with
  | nil => exact .nil
  | cons _ h2 h3 _ ih => exact .cons h2 (.cons h3 ih)
theorem RpN.len {K : PySem.W.Frag} {F : Hp} {r : List (D × D)} {l : NL} (h : RpN K F r l) : l.length = r.length := by
  have := congrArg List.length h.keys
  simpa using this.symm
theorem RpN.keysN {K : PySem.W.Frag} {F : Hp} {r : List (D × D)} {l : NL} (h : RpN K F r l) : KeysN F l := by
  induction h with
  | nil => intro p hp; cases hp
  | cons h1 h2 _ _ ih =>
    intro p hp
    rcases List.mem_cons.mp hp with rfl | hp
    · exact ⟨(h2.nisT h1).1, (h2.nisT h1).2.1⟩
    · exact ih p hp
theorem RpN.up {K : PySem.W.Frag} {F F' : Hp} (s : Same F F') {r : List (D × D)} {l : NL} (h : RpN K F r l) : RpN K F' r l := by
  induction h with
  | nil => exact .nil
  | cons h1 h2 h3 _ ih => exact .cons h1 (h2.up s) (h3.up s) ih
theorem flN_len : ∀ r : List (D × D), (flN r).length = 2 * r.length
  | [] => rfl
  | _ :: r => by simp only [flN, List.length_cons, flN_len r]; omega
def rLenN : List V → Hp → VK → Prop := fun xs H Q => ∃ (p : Addr) (l : NL), xs = [.ref p] ∧ H p = some (DN p l) ∧ KeysN H l ∧ Q (.int ((l.length : Nat) : Int)) H
theorem call_len_dN {X : Cx} : CallR X (.builtin "len") rLenN := by
  intro pins s σ H xs us Q I r h
  obtain ⟨p, l, rfl, hp, hk, q⟩ := h
  obtain ⟨u, rfl, rx⟩ := vals1 r
  obtain rfl : u = .ref p := rx
  obtain ⟨z, hd, ys, rel, dd⟩ := dn_of I.hok hp hk
  have hl : l.length = ys.length := Paired.length rel
  refine call_len_dictH hd dd (by rw [← hl]; rw [sizeLine_eq] at z; omega) ?_
  rw [← hl]
  exact ⟨.int ((l.length : Nat) : Int), H, I.tok _, ⟨_, rfl⟩, q⟩
def dLen : List (D × D) → Nat
  | (.none, .bool _) :: r => r.length / 2
  | (.none, _) :: r => r.length
  | r => r.length
def recD : List (D × D) → Bool
  | (.none, .int _) :: _ => true
  | _ => false
def lenD : List D → Option D
  | [.list ds] => some (.int ds.length)
  | [.tuple ds] => some (.int ds.length)
  | [.dict ds] => if recD ds = true then none else some (.int (dLen ds))
  | [.str x] => if x.length ≤ 16777216 then some (.int x.length) else none
  | _ => none
def rLenA (K : PySem.W.Frag) : List V → Hp → VK → Prop := fun xs H Q => (∃ x n, xs = [x] ∧ LenV K x H n ∧ Q (.int n) H) ∨ (∃ d kvs, xs = [.ref d] ∧ H d = some (.dK kvs) ∧ Q (.int kvs.length) H) ∨ rLenT xs H Q ∨ rLenN xs H Q
theorem sl_len {n : Nat} : SL K (rLenA K) [n] 0 lenD := by
  intro F H xs ds d Q s b e k
  obtain ⟨da, v, e1, e2, b0⟩ := b.one
  subst e1 e2
  have b' := b0.rp s n
  match da, b', e with
  | .list ds, b', e =>
    cases e
    obtain ⟨a, xs, rfl, s1, r1⟩ := b'.vlst
    exact .inl ⟨_, xs.length, rfl, .inl ⟨xs, s1, rfl⟩, by rw [r1.length]; exact k _ F H (got_val s (.int _))⟩
  | .tuple ds, b', e =>
    cases e
    obtain ⟨a, xs, rfl, s1, r1⟩ := b'.vtup
    exact .inl ⟨_, xs.length, rfl, .inr ⟨xs, SqT.of s1, rfl⟩, by rw [r1.length]; exact k _ F H (got_val s (.int _))⟩
  | .dict ds, b', e =>
    have e : (if recD ds = true then none else some (PyData.int (dLen ds))) = some d := e
    split at e
    · cases e
    rename_i cR
    cases e
    obtain ⟨a, o, vs, rfl, s1, q1, r1⟩ := b'.vdic
    rcases q1 with ⟨l, rfl, h1, rfl⟩ | ⟨l, r, rfl, rfl, h1, rfl⟩ | ⟨l, r, rfl, rfl, h1, rfl⟩ | ⟨C, dx, fs, r, rfl, rfl, h1, rfl⟩
    · have hl := congrArg List.length h1
      simp only [List.length_map] at hl
      have hd : dLen ds = ds.length := by
        cases ds with
        | nil => rfl
        | cons p ds =>
          cases l with
          | nil => simp at hl
          | cons q l =>
            obtain ⟨k, v⟩ := p
            simp only [List.map_cons, List.cons.injEq] at h1
            have h1 := h1.1
            cases hk : q.1 <;> rw [hk] at h1 <;> simp only [kD] at h1 <;> subst h1 <;> rfl
      exact .inr (.inl ⟨_, l, rfl, s1, by rw [hd, hl] at k; exact k _ F H (got_val s (.int _))⟩)
    · have hl := congrArg List.length h1
      simp only [List.length_map] at hl
      exact .inr (.inr (.inl ⟨_, l, rfl, s1, by rw [show dLen ((.none, .none) :: r) = l.length from hl] at k; exact k _ F H (got_val s (.int _))⟩))
    · have rn : RpN K H r l := rpN_of h1 (by simp only [nEnc, List.map_cons] at r1; cases r1 with | cons _ q => exact q)
      have hd : dLen (nEnc r) = l.length := by
        show (flN r).length / 2 = l.length
        rw [flN_len, rn.len]; omega
      rw [hd] at k
      exact .inr (.inr (.inr ⟨_, l, rfl, s1, rn.keysN, k _ F H (got_val s (.int _))⟩))
    · exact absurd rfl cR
  | .str x, b', e =>
    simp only [lenD] at e
    split at e
    · rename_i c
      cases e
      rw [b'.vstr]
      exact .inl ⟨_, x.length, rfl, ⟨szLine c, rfl⟩, k _ F H (got_val s (.int _))⟩
    · cases e
theorem se_len {p pos : Pos} {e : Expr} {fa : EF} {n : Nat} (hg : Gl X "len") (hm : X.mg "len" = none) (ha : SB X Γ e fa n Γ1) (he : starEach (e :: []) X.env = (false, eval e X.env) :: starEach [] X.env := by rfl) (hpl : (backTo pos (starEach [] X.env)).any (·.1) = false := by rfl) :
    SE X Γ (.Call (.Name "len" p) [e] [] pos) (eL lenD (aC fa aN)) 0 Γ1 := se_callB (call_len.or (call_lenD.or (call_len_dT.or call_len_dN))) sl_len hg hm PySem.boot_len (sa_cons ha sa_nil he) (by decide) (by decide) he hpl
def maxD : List D → Option D
  | [.int i, .int j] => some (.int (if j > i then j else i))
  | _ => none
theorem sl_max {n m : Nat} : SL K (fun xs H Q => ∃ i j, xs = [.int i, .int j] ∧ Q (.int (if j > i then j else i)) H) [n, m] 0 maxD := by
  intro F H xs ds d Q s b e k
  obtain ⟨d1, v1, d2, v2, rfl, rfl, b1, b2⟩ := b.two
  match d1, d2, b1, b2, e with
  | .int i, .int j, b1, b2, e =>
    cases e
    rw [b1.vint s, b2.vint s]
    exact ⟨i, j, rfl, k _ F H (got_val s (.int _))⟩
theorem boot_max' : bootBuiltins "max" = some (.builtin "max") := by decide +kernel
theorem se_max2 {p pos : Pos} {e : Expr} {es : List Expr} {fs : AF} {n m : Nat} (hc : X.calm = true) (hg : Gl X "max") (hm : X.mg "max" = none) (ha : SA X Γ (e :: es) fs [n, m] Γ1) (he : starEach (e :: es) X.env = (false, eval e X.env) :: starEach es X.env := by rfl) (hpl : (backTo pos (starEach es X.env)).any (·.1) = false := by rfl) :
    SE X Γ (.Call (.Name "max" p) (e :: es) [] pos) (eL maxD fs) 0 Γ1 := se_callB (call_max2 hc) sl_max hg hm boot_max' ha (by decide) (by decide) he hpl
def tyD : D → String
  | .none => "NoneType"
  | .bool _ => "bool"
  | .int _ => "int"
  | .str _ => "str"
  | .list _ => "list"
  | .tuple _ => "tuple"
  | .dict _ => "dict"
def TyY (K : PySem.W.Frag) (H : Hp) (v : V) (t : Value) : Prop := TyX K H v t ∨ ∃ a l, v = .ref a ∧ H a = some (DN a l) ∧ t = .type "dict"
def rIsiY (K : PySem.W.Frag) : List V → Hp → VK → Prop := fun xs H Q => ∃ (x c : V) (t u : Value) (b : Bool), xs = [x, c] ∧ ClsV c u ∧ TyY K H x t ∧ PySem.W.kitOne K t u = some b ∧ Q (.bl b) H
theorem call_isiY {X : Cx} : CallR X (.builtin "isinstance") (rIsiY X.K) := by
  intro pins s σ H xs us Q I r h
  obtain ⟨x, c, t, u, b, e0, k, ty, e, q⟩ := h
  rcases ty with ty | ⟨a, l, rfl, hl, rfl⟩
  · exact call_isi pins s σ H xs us Q I r ⟨x, c, t, u, b, e0, k, ty, e, q⟩
  · subst e0
    obtain ⟨u1, u2, rfl, r1, r2⟩ := vals2 r
    have e2 := k.eq r2
    subst e2
    cases (show u1 = Value.ref a from r1)
    obtain ⟨⟨_, _, _, _, o, _, _, _, h1, h2, _⟩, _⟩ := (show ObjOk X.prog X.w H s.heap a (.ext (DNp a l)) from I.hok a _ hl)
    exact PySem.W.kia_one PySem.W.kitx_dict I.kIn ⟨o, h1, h2.1⟩ e (fun z => nomatch z) fun tk => ⟨.bl b, H, I.tok tk, rfl, q⟩
@[simp] def isR : D → Bool
  | .dict ds => recD ds
  | _ => false
theorem Rp.ty {v : V} {d : D} (h : Rp K H v d) (hr : isR d = false) : TyY K H v (.type (tyD d)) := by
  cases h with
  | non => exact .inl (.base .non)
  | bl b => exact .inl (.base (.bl b))
  | int i => exact .inl (.base (.int i))
  | str x => exact .inl (.base (.str x))
  | lst s r =>
    rcases s with (s | ⟨o, s⟩) | ⟨o, its, n, h1, h2, _⟩
    · exact .inl (.base (.lst s))
    · exact .inl (.base (.frz s))
    · exact .inl (.kList h1 h2)
  | tup s r => exact .inl (.base (.tup s))
  | dic s q r =>
    rcases q with ⟨l, rfl, _⟩ | ⟨l, r, rfl, _⟩ | ⟨l, r, rfl, _⟩ | ⟨C, dx, fs, r, rfl, rfl, _⟩
    · exact .inl (.base (.dK s))
    · exact .inl (.base (.dT s))
    · exact .inr ⟨_, l, rfl, s, rfl⟩
    · simp [isR, recD] at hr
def isiD (T : String) : D → Bool
  | .none => T == "NoneType"
  | .bool _ => T == "bool" || T == "int"
  | .int _ => T == "int"
  | .str _ => T == "str"
  | .list _ => T == "list"
  | .tuple _ => T == "tuple"
  | .dict _ => T == "dict"
def KitOk (T : String) : Prop := kitB "NoneType" T = some (T == "NoneType") ∧ kitB "bool" T = some (T == "bool" || T == "int") ∧ kitB "int" T = some (T == "int") ∧ kitB "str" T = some (T == "str") ∧ kitB "list" T = some (T == "list") ∧ kitB "tuple" T = some (T == "tuple") ∧ kitB "dict" T = some (T == "dict")
theorem KitOk.at {T : String} (h : KitOk T) (d : D) : kitB (tyD d) T = some (isiD T d) := by
  obtain ⟨h1, h2, h3, h4, h5, h6, h7⟩ := h
  cases d <;> assumption
theorem kitOk_bool : KitOk "bool" := by unfold KitOk; decide +kernel
theorem kitOk_int : KitOk "int" := by unfold KitOk; decide +kernel
theorem kitOk_str : KitOk "str" := by unfold KitOk; decide +kernel
theorem kitOk_list : KitOk "list" := by unfold KitOk; decide +kernel
theorem kitOk_tuple : KitOk "tuple" := by unfold KitOk; decide +kernel
theorem boot_isinstance : bootBuiltins "isinstance" = some (.builtin "isinstance") := by decide +kernel
def eIsi (T : String) (f : EF) : EF := fun env => (f env).bind fun d => if isR d = true then none else some (.bool (isiD T d))
theorem eIsi_inv {T : String} {f : EF} {env : List D} {d : D} (e : eIsi T f env = some d) : ∃ x, f env = some x ∧ isR x = false ∧ d = .bool (isiD T x) := by
  obtain ⟨x, hx, e⟩ := Option.bind_eq_some_iff.mp e
  split at e
  · cases e
  · rename_i c
    exact ⟨x, hx, by simpa using c, (Option.some.inj e).symm⟩
theorem se_isi {T : String} {x : Str} {p px pos : Pos} {e : Expr} {fa : EF} {n : Nat} (hk : KitOk T) (hg : Gl X "isinstance") (hm : X.mg "isinstance" = none) (hgT : Gl X x) (hmT : X.mg x = none) (hvT : bootBuiltins x = some (.type T)) (ha : SB X Γ e fa n Γ1)
    (he : starEach (e :: [.Name x px]) X.env = (false, eval e X.env) :: starEach [.Name x px] X.env := by rfl) (he2 : starEach [.Name x px] X.env = (false, eval (.Name x px) X.env) :: starEach [] X.env := by rfl) (hpl : (backTo pos (starEach [.Name x px] X.env)).any (·.1) = false := by rfl) (hn : x ≠ "__name__" := by decide) (hd : (x == ("__debug__" : Str)) = false := by decide) :
    SE X Γ (.Call (.Name "isinstance" p) [e, .Name x px] [] pos) (eIsi T fa) 0 Γ1 := by
  obtain ⟨t, pe, q⟩ := ha
  refine ⟨_, pe_callB call_isiY hg hm boot_isinstance (pa_cons pe (pa_cons (pe_bltn (v := .ty T) hgT hmT hvT rfl hn hd) pa_nil he2) he) (by decide) (by decide) he hpl, fun B σ env F H d Q r e k => ?_⟩
  obtain ⟨d', hd, hr, e⟩ := eIsi_inv e
  refine q B σ env F H d' _ r hd fun v F' H' s1 s2 w b => ?_
  subst e
  exact ⟨v, .ty T, .type (tyD d'), .type T, isiD T d', rfl, .ty T, (b.rp w.fh n).ty hr, kit_ty (hk.at d'), k _ F' H' s1 s2 (w.t0 (.bl _))⟩

def aSeq (f : EF) : AF := fun env => (f env).bind fun d => match d with | .list ds => some ds | .tuple ds => some ds | _ => none
theorem itOk_list {a : Addr} {xs : List V} {ds : List D} (s : SqL K F a xs) (r : RpAll K F xs ds) : ItOk K F (Itl K a) ds where
  go := fun i F1 H e e2 hi => by
    have hx : i < xs.length := by rw [r.length]; exact hi
    exact ⟨xs, xs[i], sqL_up (e.trans e2) s, List.getElem?_eq_getElem hx⟩
  yld := fun i F1 H x H' e e2 ⟨hH, hx⟩ d hd => by
    subst hH
    obtain ⟨v, h1, h2⟩ := r.get hd
    have h3 := hx xs (sqL_up (e.trans e2) s)
    rw [h1] at h3
    cases h3
    exact ⟨F1, got_val e2 (h2.up e)⟩
  stop := fun i F1 H e e2 hi => ⟨xs, sqL_up (e.trans e2) s, by rw [r.length]; exact hi⟩
theorem itOk_tup {a : Addr} {xs : List V} {ds : List D} (s : F a = some (.tup xs)) (r : RpAll K F xs ds) : ItOk K F (Itt K a) ds where
  go := fun i F1 H e e2 hi => by
    have hx : i < xs.length := by rw [r.length]; exact hi
    exact ⟨xs, xs[i], SqT.of (e2 _ _ (e _ _ s)), List.getElem?_eq_getElem hx⟩
  yld := fun i F1 H x H' e e2 ⟨hH, hx⟩ d hd => by
    subst hH
    obtain ⟨v, h1, h2⟩ := r.get hd
    have h3 := hx xs (SqT.of (e2 _ _ (e _ _ s)))
    rw [h1] at h3
    cases h3
    exact ⟨F1, got_val e2 (h2.up e)⟩
  stop := fun i F1 H e e2 hi => ⟨xs, SqT.of (e2 _ _ (e _ _ s)), by rw [r.length]; exact hi⟩
theorem PI.or {tg iter : Expr} {w w' : TI} (h : PI X tg iter w) (h' : PI X tg iter w') : PI X tg iter (fun σ H R => w σ H R ∨ w' σ H R) :=
  ⟨fun pins s σ H R I q => q.elim (h.run pins s σ H R I) (h'.run pins s σ H R I)⟩
theorem si_seq {tg e : Expr} {f : EF} (h : SE X Γ e f 0 Γ') : SI X Γ tg e (aSeq f) Γ' := by
  obtain ⟨t, p, q⟩ := h
  refine ⟨_, PI.or (pi_list p) (pi_tup p), fun B σ env F H ds R r e k => ?_⟩
  obtain ⟨d, hd, e⟩ := Option.bind_eq_some_iff.mp e
  cases d with
  | list ds' =>
    cases e
    refine .inl (q B σ env F H _ _ r hd fun v F' H' s1 s2 w => ?_)
    obtain ⟨a, xs, rfl, s3, r3⟩ := Rp.vlst w.bw
    exact ⟨a, rfl, ⟨xs, sqL_up w.rel.fh s3⟩, k _ F' H' s1 s2 w.rel (itOk_list s3 r3)⟩
  | tuple ds' =>
    cases e
    refine .inr (q B σ env F H _ _ r hd fun v F' H' s1 s2 w => ?_)
    obtain ⟨a, xs, rfl, s3, r3⟩ := Rp.vtup w.bw
    exact ⟨a, rfl, ⟨xs, SqT.of (w.rel.fh _ _ s3)⟩, k _ F' H' s1 s2 w.rel (itOk_tup s3 r3)⟩
  | _ => cases e
def rngD (lo : Int) (n : Nat) : List D := (List.range n).map fun i => .int (lo + (i : Nat))
theorem itOk_rng (lo : Int) (n : Nat) : ItOk K F (Itr lo n) (rngD lo n) where
  go := fun i F1 H e e2 hi => by
    have : i < n := by simpa [rngD] using hi
    exact this
  yld := fun i F1 H x H' e e2 ⟨hH, hx⟩ d hd => by
    subst hH hx
    simp only [rngD, List.getElem?_map, Option.map_eq_some_iff] at hd
    obtain ⟨j, hj, rfl⟩ := hd
    obtain ⟨h1, h2⟩ := List.getElem?_eq_some_iff.mp hj
    simp at h2
    subst h2
    exact ⟨F1, got_val e2 (.int _)⟩
  stop := fun i F1 H e e2 hi => by
    have : n ≤ i := by simpa [rngD] using hi
    exact this
def aRng1 (fs : AF) : AF := fun env => (fs env).bind fun ds => match ds with | [.int n] => if -(2 ^ 62) ≤ n ∧ n < 2 ^ 62 then some (rngD 0 n.toNat) else none | _ => none
theorem si_range1 {tg a : Expr} {fa : EF} {n : Nat} {p pos : Pos} (hg : Gl X "range") (hm : X.mg "range" = none) (ha : SB X Γ a fa n Γ') (hs : starEach [a] X.env = [(false, eval a X.env)] := by rfl) : SI X Γ tg (.Call (.Name "range" p) [a] [] pos) (aRng1 (aC fa aN)) Γ' := by
  obtain ⟨t, pa, q⟩ := sa_cons ha sa_nil hs
  refine ⟨_, pi_range1 hg hm pa hs, fun B σ env F H ds R r e k => ?_⟩
  obtain ⟨d, hd, e⟩ := Option.bind_eq_some_iff.mp e
  refine q B σ env F H d _ r hd fun v F' H' s1 s2 w b => ?_
  obtain ⟨d', v', e1, e2, b0⟩ := b.one
  subst e1 e2
  clear b
  have b := b0
  clear b0
  cases d' with
  | int m =>
    simp only at e
    split at e
    · rename_i c
      cases e
      rw [b.vint w.fh]
      exact ⟨m, rfl, c.1, c.2, k _ F' H' s1 s2 w (itOk_rng 0 _)⟩
    · cases e
  | _ => cases e
end
end Pf

set_option Elab.async false
set_option linter.all false
set_option maxRecDepth 100000
set_option maxHeartbeats 4000000
namespace Pf
open PySem L2
section
variable {X : Cx} {L : Lp} {Γ Γ0 Γ1 Γ2 Γ3 Γ' : Ctx} {K : PySem.W.Frag} {F F' H H' : Hp} {B : Bs}
theorem Slots.wipe1 : ∀ {Γ : Ctx} {σ : St} {env : List D} {f : Fp} {i : Nat}, Slots K F H Γ σ env f → Γ[i]? = some none → Slots K F H Γ (σ.set i none) env f
  | none :: Γ, s :: σ, d :: env, f, 0, h, _ => h
  | none :: Γ, s :: σ, d :: env, f, i + 1, h, e => Slots.wipe1 (Γ := Γ) (i := i) h (by simpa using e)
  | some n :: Γ, s :: σ, d :: env, f, 0, h, e => by simp at e
  | some n :: Γ, s :: σ, d :: env, f, i + 1, ⟨v, f1, f2, es, o, r, hf⟩, e => ⟨v, f1, f2, es, o, Slots.wipe1 (i := i) r (by simpa using e), hf⟩
  | [], _, _, _, _, _, e => by simp at e
  | _ :: _, [], _, _, _, h, _ | _ :: _, _ :: _, [], _, _, h, _ => by simp [Slots] at h
def ext (B : Bs) (F H : Hp) (g : Fp) : Bs := ⟨fun a => if 0 < g a then H a else B.H0 a, F⟩
structure ItOkG (K : PySem.W.Frag) (F Hb : Hp) (J : It) (ds : List D) : Prop where
  go : ∀ i F1 H, Same F F1 → Sub F1 H → Same Hb H → i < ds.length → J.go i H
  yld : ∀ i F1 H x H', Same F F1 → Sub F1 H → Same Hb H → J.yld i H x H' → ∀ d, ds[i]? = some d → ∃ F2, Got K F1 H F2 H' 0 d x
  stop : ∀ i F1 H, Same F F1 → Sub F1 H → Same Hb H → ds.length ≤ i → J.stop i H
def SIg (X : Cx) (Γ : Ctx) (tg iter : Expr) (f : AF) (Γ' : Ctx) : Prop :=
  ∃ wi : TI, PI X tg iter wi ∧ ∀ (B : Bs) (σ : St) (env : List D) (F H : Hp) (ds : List D) (R : It → Hp → Prop), Rel X.K B Γ σ env F H → f env = some ds →
    (∀ J F' H', Same F F' → Same H H' → Rel X.K B Γ' σ env F' H' → ItOkG X.K F' H' J ds → R J H') → wi σ H R
theorem SI.g {tg iter : Expr} {f : AF} (h : SI X Γ tg iter f Γ') : SIg X Γ tg iter f Γ' := by
  obtain ⟨wi, p, q⟩ := h
  exact ⟨wi, p, fun B σ env F H ds R r e k => q B σ env F H ds R r e fun J F' H' s1 s2 r' it => k J F' H' s1 s2 r' ⟨fun i F1 H a b _ => it.go i F1 H a b, fun i F1 H x H' a b _ => it.yld i F1 H x H' a b, fun i F1 H a b _ => it.stop i F1 H a b⟩⟩
def SC (X : Cx) (Γ : Ctx) (ifs : List Expr) (f : TF) (Γ' : Ctx) : Prop :=
  ∃ t : TT, PTs X ifs t ∧ ∀ (B : Bs) (σ : St) (env : List D) (F H : Hp) (b : Bool) (Q : Bool → Hp → Prop), Rel X.K B Γ σ env F H → f env = some b →
    (∀ F' H', Same F F' → Same H H' → Rel X.K B Γ' σ env F' H' → Q b H') → t σ H Q
def canE (K : PySem.W.Frag) (Γ : Ctx) (f : EF) (n : Nat) (Γ' : Ctx) : TE := fun σ H Q => ∃ B env F d, Rel K B Γ σ env F H ∧ f env = some d ∧ ∀ v F' H', Same F F' → Same H H' → RelT K B Γ' σ env F' H' n d v → Q v H'
def canC (K : PySem.W.Frag) (Γ : Ctx) (f : TF) (Γ' : Ctx) : TT := fun σ H Q => ∃ B env F b, Rel K B Γ σ env F H ∧ f env = some b ∧ ∀ F' H', Same F F' → Same H H' → Rel K B Γ' σ env F' H' → Q b H'
def canG (K : PySem.W.Frag) (Γ : Ctx) (g : D → List D → Option (List D)) (ws : List Nat) (Γ' : Ctx) : TG := fun v σ H Q => ∃ B env env' F d, Rel K B Γ σ env F H ∧ Rp K F v d ∧ g d env = some env' ∧ ∀ σ', Rel K B Γ' σ' env' F H → σ'.length = σ.length → (∀ j, j ∉ ws → σ'[j]? = σ[j]?) → Q σ' H
theorem SE.can {e : Expr} {f : EF} {n : Nat} (h : SE X Γ e f n Γ') : PE X e (canE X.K Γ f n Γ') := by
  obtain ⟨t, p, q⟩ := h
  exact ⟨fun pins s σ H Q I ⟨B, env, F, d, h1, h2, h3⟩ => p.run pins s σ H Q I (q B σ env F H d Q h1 h2 h3)⟩
theorem SC.can {e : List Expr} {f : TF} (h : SC X Γ e f Γ') : PTs X e (canC X.K Γ f Γ') := by
  obtain ⟨t, p, q⟩ := h
  exact ⟨fun pins s σ H Q I ⟨B, env, F, d, h1, h2, h3⟩ => p.run pins s σ H Q I (q B σ env F H d Q h1 h2 h3)⟩
theorem SG.can {tg : Expr} {g : D → List D → Option (List D)} {ws : List Nat} (h : SG X Γ tg g ws Γ') : PG X tg (canG X.K Γ g ws Γ') := by
  obtain ⟨_, t, p, q⟩ := h
  exact ⟨fun pins s σ H v u Q I r ⟨B, env, env', F, d, h1, h2, h3, h4⟩ => p.run pins s σ H v u Q I r (q B σ env env' F H d v Q h1 h2 h3 h4)⟩
theorem Slots.agree : ∀ {Γ : Ctx} {σ σ' : St} {env env' : List D} {f : Fp}, Slots K F H Γ σ env f → σ'.length = σ.length → env'.length = env.length → (∀ j : Nat, Γ[j]? = some none ∨ (σ'[j]? = σ[j]? ∧ env'[j]? = env[j]?)) → Slots K F H Γ σ' env' f
  | [], [], [], [], [], f, h, _, _, _ => h
  | none :: Γ, _ :: σ, _ :: σ', _ :: env, _ :: env', f, h, l1, l2, k => Slots.agree (Γ := Γ) h (by simpa using l1) (by simpa using l2) fun j => by simpa using k (j + 1)
  | some n :: Γ, s :: σ, s' :: σ', d :: env, d' :: env', f, ⟨v, f1, f2, es, o, r, hf⟩, l1, l2, k => by
    have k0 := k 0
    simp at k0
    obtain ⟨rfl, rfl⟩ := k0
    exact ⟨v, f1, f2, es, o, Slots.agree r (by simpa using l1) (by simpa using l2) fun j => by simpa using k (j + 1), hf⟩
  | [], [], _ :: _, _, _, _, _, h, _, _ => by simp at h
  | [], [], [], [], _ :: _, _, _, _, h, _ => by simp at h
  | _ :: _, _ :: _, [], _, _, _, _, h, _, _ => by simp at h
  | _ :: _, _ :: _, _ :: _, _ :: _, [], _, _, _, h, _ => by simp at h
  | [], _ :: _, _, _, _, _, h, _, _, _ | [], [], [], _ :: _, _, _, h, _, _, _ | _ :: _, [], _, _, _, _, h, _, _, _ | _ :: _, _ :: _, _ :: _, [], _, _, h, _, _, _ => by simp [Slots] at h
end
end Pf

set_option Elab.async false
set_option linter.all false
set_option maxRecDepth 100000
set_option maxHeartbeats 4000000
namespace Pf
open PySem L2
theorem hu64 {k : Nat} {A : Around} (hr : Room k A) : A.units + 64 < cLine := hr.units
theorem hu65 {k : Nat} {A : Around} (hr : Room k A) : A.units + 65 < cLine := by have z := hr.un; omega
theorem none_fn {P : Program} {w : World} {K : PySem.W.Frag} {mg : Str → Option Value} {base : Heap} {k : Nat} {f : Addr} {fd : FuncData} {ps : List Str} {m n : Nat} (_ : ps.length = m) :
    FnOk P w K mg base CX0 k f fd ps (Pure K m n (fun _ => none)) := by
  have no : ∀ vs H Q E, ¬ Pure K m n (fun _ => none) vs H Q E := fun vs H Q E h => by
    obtain ⟨F, ds, d, _, _, _, h, _⟩ := h
    cases h
  exact ⟨fun vs H Q E h => absurd h (no vs H Q E), fun A outer s H args us vs Q E _ _ _ _ h => absurd h (no vs H Q E)⟩
theorem app_pe {X : Cx} {x : Str} {xpos apos cpos : Pos} {e : Expr} {i : Nat} (hx : PE X (.Name x xpos) (tVar i) := by exact pv _) (h3 : (apos.endLine == cpos.line) = true := by rfl) (h4 : starEach (e :: []) X.env = (false, eval e X.env) :: starEach [] X.env := by rfl) (h5 : (backTo cpos (starEach [] X.env)).any (·.1) = false := by rfl)
    (h1 : attributeBase (.Name x xpos) "append" X.env (eval (.Name x xpos) X.env) = eval (.Name x xpos) X.env := by rfl)
    (h2 : (((backTo cpos (starEach (e :: []) X.env)).all (fun x => !x.1)) && ((backToKw cpos (keywordEach [] X.env)).all (fun x => x.1.isSome)) && decide (((e :: []).length + ([] : List Keyword).length + (if ([] : List Keyword).isEmpty then 0 else 1)) < 30)) = true := by rfl) :
    ∀ ta, PA X [e] ta → PE X (.Call (.Attribute (.Name x xpos) "append" apos) [e] [] cpos) (tBM X.K "list" rAppend (tVar i) ta) := fun ta p =>
  pe_bm PySem.F.plainAttrs_list PySem.F.slot_list_append PySem.F.type_list_append (fun a b c d e f g h i j k => mt_append a b c d e f g h i j k) hx p h1 h2 h3 h4 h5
section
variable {X : Cx} {Γ Γ1 Γ2 Γ' : Ctx}
end
theorem rp_ints {K : PySem.W.Frag} {F : Hp} : ∀ ns : List Int, RpAll K F (ns.map V.int) (ns.map PyData.int)
  | [] => .nil
  | n :: ns => .cons (.int n) (rp_ints ns)
theorem pure_law {K : PySem.W.Frag} {H : Hp} {a : Addr} {ns : List Int} {f : List D → Option D} {E : XK} (h : f [.list (ns.map .int)] = some (.bool true)) (hS : SqL K H a (ns.map V.int)) (ht : TB H := by exact tb_nil) : Pure K 1 0 f [V.ref a] H (fun v _ => v = V.bl true) E :=
  ⟨H, _, _, ⟨Same.refl _, ht⟩, rfl, .cons (.lst hS (rp_ints ns)) .nil, h, fun v F' H' ⟨g, o, _⟩ => (Own.bw 0 o).vbl⟩
end Pf

set_option Elab.async false
set_option linter.all false
set_option maxRecDepth 100000
set_option maxHeartbeats 4000000
namespace Pf
open PySem L2
theorem pEq_str (a b : Str) : pEq (.str a) (.str b) = some (.bool (a == b)) := by simp [pEq, eqD, scalD, PyData.eqv]
theorem pEq_int (a b : Int) : pEq (.int a) (.int b) = some (.bool (a == b)) := by simp [pEq, eqD, scalD, PyData.eqv]
theorem pNe_str (a b : Str) : pNe (.str a) (.str b) = some (.bool (!(a == b))) := by simp [pNe, eqD, scalD, PyData.eqv]
theorem pNe_int (a b : Int) : pNe (.int a) (.int b) = some (.bool (!(a == b))) := by simp [pNe, eqD, scalD, PyData.eqv]
theorem seq_nx {f g : SF} {env e1 : List D} (h : f env = some (.nx e1)) : sSeq f g env = g e1 := by unfold sSeq; rw [h]; rfl
theorem seq_rt {f g : SF} {env : List D} {d : D} (h : f env = some (.rt d)) : sSeq f g env = some (.rt d) := by unfold sSeq; rw [h]; rfl
theorem set_nx {i : Nat} {f : EF} {env : List D} {d : D} (h : f env = some d) : sSet i f env = some (.nx (env.set i d)) := by unfold sSet; rw [h]; rfl
theorem if_tt {c : TF} {f g : SF} {env : List D} (h : c env = some true) : sIf c f g env = f env := by unfold sIf; rw [h]; rfl
theorem if_ff {c : TF} {f g : SF} {env : List D} (h : c env = some false) : sIf c f g env = g env := by unfold sIf; rw [h]; rfl
theorem ret_rt {f : EF} {env : List D} {d : D} (h : f env = some d) : sRet f env = some (.rt d) := by unfold sRet; rw [h]; rfl
theorem for_run {fs : AF} {g : D → List D → Option (List D)} {b : SF} {env : List D} {ds : List D} (h : fs env = some ds) : sForE fs g b env = sFor g b ds env := by unfold sForE; rw [h]; rfl
theorem e2_ok {g : D → D → Option D} {fa fb : EF} {env : List D} {x y d : D} (h : fa env = some x) (k : fb env = some y) (q : g x y = some d) : e2 g fa fb env = some d := by unfold e2; rw [h, Option.bind_some, k, Option.bind_some, q]
theorem eL_ok {g : List D → Option D} {fs : AF} {env : List D} {x : List D} {d : D} (h : fs env = some x) (q : g x = some d) : eL g fs env = some d := by unfold eL; rw [h, Option.bind_some, q]
theorem tNot_ok {c : TF} {env : List D} {b : Bool} (h : c env = some b) : tNotF c env = some (!b) := by unfold tNotF; rw [h]; rfl
theorem tT_ok {f : EF} {env : List D} {d : D} {b : Bool} (h : f env = some d) (k : truth d = some b) : tT f env = some b := by unfold tT; rw [h, Option.bind_some, k]
theorem tup_ok {fs : AF} {env ds : List D} (h : fs env = some ds) (hl : ds.length ≤ 16777216) : eTup fs env = some (.tuple ds) := by unfold eTup; rw [h, Option.bind_some, if_pos hl]
theorem tV_ok {f : EF} {env : List D} {b : Bool} (h : f env = some (.bool b)) : tV f env = some b := by unfold tV; rw [h]; rfl
theorem aC_ok {f : EF} {fs : AF} {env : List D} {d : D} {ds : List D} (h : f env = some d) (k : fs env = some ds) : aC f fs env = some (d :: ds) := by unfold aC; rw [h, Option.bind_some, k]; rfl
theorem runF_rt {ρ m N : Nat} {b : SF} {ds : List D} {d : D} (hl : ds.length = m) (h : b (ds ++ List.replicate (N - m) .none) = some (.rt d)) : runF ρ m N b ds = some d := by unfold runF; rw [if_pos hl, h]; rfl
theorem atI_of {α : Type} {xs : List α} {i : Int} {x : α} (h0 : 0 ≤ i) (h : xs[i.toNat]? = some x) : atI xs i = some x := by
  have hl := (List.getElem?_eq_some_iff.mp h).1
  have e : ixN xs.length i = some i.toNat := by unfold ixN; rw [if_pos h0, if_pos (by omega)]
  unfold atI
  rw [e]
  exact h
theorem atI_lit {α : Type} (xs : List α) (n : Nat) {x : α} (h : xs[n]? = some x) : atI xs (n : Int) = some x := atI_of (by omega) (by simpa using h)
theorem cdiv_ok {i j : Int} (h0 : 0 < j) (h : j < 2 ^ 100) : CDivW i j := by
  refine ⟨h0, Nat.lt_of_lt_of_le (PySem.Flt.log2_lt_of (k := 100) (by decide) ?_) (by decide)⟩
  omega
theorem cmul_ok {i j : Int} (h1 : -(2 ^ 1000) < i) (h2 : i < 2 ^ 1000) (h3 : -(2 ^ 1000) < j) (h4 : j < 2 ^ 1000) : CMulW i j :=
  wide_mul (a := 1000) (b := 1000) (by omega) (by omega) (by decide) (by decide) (by decide)
theorem pDiv_ok {i j : Int} (h0 : 0 < j) (h : j < 2 ^ 100) : pDiv (.int i) (.int j) = some (.int (i / j)) := by
  simp only [pDiv, iOp, if_pos (cdiv_ok (i := i) h0 h)]
theorem pMod_ok {i j : Int} (h0 : 0 < j) : pMod (.int i) (.int j) = some (.int (i % j)) := by
  simp only [pMod, iOp, if_pos h0]
theorem pMul_ok {i j : Int} (h1 : -(2 ^ 1000) < i) (h2 : i < 2 ^ 1000) (h3 : -(2 ^ 1000) < j) (h4 : j < 2 ^ 1000) : pMul (.int i) (.int j) = some (.int (i * j)) := by
  simp only [pMul, iOp, if_pos (cmul_ok h1 h2 h3 h4)]
theorem aRng1_int {fs : AF} {env : List D} {n : Int} (h : fs env = some [.int n]) (c : -(2 ^ 62) ≤ n ∧ n < 2 ^ 62) : aRng1 fs env = some (rngD 0 n.toNat) := by
  unfold aRng1
  rw [h]
  show (if -(2 ^ 62) ≤ n ∧ n < 2 ^ 62 then some (rngD 0 n.toNat) else none) = some (rngD 0 n.toNat)
  rw [if_pos c]
theorem aRng1_ok {fs : AF} {env : List D} {n : Nat} (h : fs env = some [.int (n : Int)]) (hn : n < 1000000000) : aRng1 fs env = some (rngD 0 n) := aRng1_int h (by omega)
end Pf

set_option Elab.async false
set_option linter.all false
set_option maxRecDepth 100000
set_option maxHeartbeats 4000000
namespace Pf
open PySem L2
section
variable {X : Cx} {L : Lp} {Γ Γ1 Γ2 Γ3 Γ' : Ctx} {K : PySem.W.Frag} {F F' H H' : Hp} {B : Bs}
def intsD : List D → Option (List Int)
  | [] => some []
  | .int i :: ds => (intsD ds).map (i :: ·)
  | _ :: _ => none
theorem boot_int' : bootBuiltins "int" = some (.type "int") := by decide +kernel
section
variable {a b : Expr} {pos : Pos} {fa fb : EF} {na nb : Nat}
end
theorem ss_aug {x : Str} {i n m : Nat} {op : Operator} {e : Expr} {fe : EF} {pos pos' : Pos} {f : Int → Int → Int} (ho : PIp X op (ipI f)) (hN : X.N.Nodup) (hi0 : Γ[i]? = some (some n)) (he : SE X Γ e fe m Γ1) (hpin : i ∉ L.pin := by first | decide | simp) (hl : i < Γ1.length := by decide) (hi : X.N[i]? = some x := by rfl) (hx : Loc X.env.scope x := by first | exact .inl rfl | exact .inr rfl)
    (hf : X.fn x = true ∨ X.env.scope.names.lookup x = some .local := by first | exact .inl rfl | exact .inr rfl) : SS X L Γ (.AugAssign (.Name x pos') op e pos) (sSet i (e2 (iOp0 fun a b => .int (f a b)) (eV i) fe)) (Γ1.set i (some 0)) := by
  obtain ⟨t, p, q⟩ := he
  refine ⟨_, ps_aug hN hi hx p ho hf, fun B σ env F H o E r e k => ?_⟩
  obtain ⟨d, hd, e⟩ := Option.bind_eq_some_iff.mp e
  cases e
  obtain ⟨y, z, hy, hz, hg⟩ := bind2 hd
  obtain ⟨v, d', h1, h2, h3, _⟩ := r.slot hi0
  rw [eV, h2] at hy
  cases hy
  refine ⟨v, h1, q B σ env F H z _ r hz fun u F1 H1 s1 t1 r1 => ?_⟩
  match y, z, h3, r1, hg with
  | .int a, .int b, h3, r1, hg =>
    cases hg
    refine ⟨a, b, h3.vint r.fh, r1.bw.vint r1.rel.fh, ?_⟩
    exact k _ F1 H1 s1 ((r1.rel.t0 (.int _)).put hl) (.set hpin)
theorem Rp.flatUp {v : V} {d : D} (h : Rp K F v d) (e : flatD d = true) : Rp K F' v d := by
  cases h with
  | non => exact .non
  | bl b => exact .bl b
  | int i => exact .int i
  | str x => exact .str x
  | lst _ _ => cases e
  | tup _ _ => cases e
  | dic _ _ _ => cases e
def flatF (g : List D → Option D) : List D → Option D := fun ds => (g ds).bind fun d => if flatD d = true then some d else none
theorem BwL.rpH (e : Sub F H) : ∀ {ns : List Nat} {ds : List D} {vs : List V}, BwL K F H ns ds vs → RpAll K H vs ds
  | [], [], [], _ => .nil
  | n :: ns, d :: ds, v :: vs, ⟨a, b⟩ => .cons (a.rp e n) (BwL.rpH e b)
  | [], [], _ :: _, h | [], _ :: _, _, h | _ :: _, [], _, h | _ :: _, _ :: _, [], h => by simp [BwL] at h
theorem BwL.lenV : ∀ {ns : List Nat} {ds : List D} {vs : List V}, BwL K F H ns ds vs → vs.length = ns.length
  | [], [], [], _ => rfl
  | n :: ns, d :: ds, v :: vs, ⟨a, b⟩ => by simp [BwL.lenV b]
  | [], [], _ :: _, h | [], _ :: _, _, h | _ :: _, [], _, h | _ :: _, _ :: _, [], h => by simp [BwL] at h
theorem se_lend {k : Nat} {f : Addr} {fd : FuncData} {ps : List Str} {x : Str} {p pos : Pos} {e : Expr} {es : List Expr} {fs : AF} {ns : List Nat} {m : Nat} {g : List D → Option D}
    (G : FnOk X.prog X.w X.K X.mg X.base CX0 k f fd ps (Pure X.K m 0 g)) (hr : Room k X.A) (hg : Gl X x) (hm : X.mg x = some (.ref f)) (hk : PySem.W.keepIn X.K (.ref f) = true) (hb : Binds X.K fd ps [])
    (ha : SA X Γ (e :: es) fs ns Γ1) (hl : ns.length = m := by rfl) (hdb : (x == ("__debug__" : Str)) = false := by decide) (he : starEach (e :: es) X.env = (false, eval e X.env) :: starEach es X.env := by rfl) (hpl : (backTo pos (starEach es X.env)).any (·.1) = false := by rfl) :
    SE X Γ (.Call (.Name x p) (e :: es) [] pos) (eL (flatF g) fs) 0 Γ1 := by
  obtain ⟨ta, pa, qa⟩ := ha
  refine ⟨_, pe_call G hr hg hm hk hb .nil pass0 pa hdb he hpl, fun B σ env F H d Q rr e' k => ?_⟩
  obtain ⟨ds, hx, hgd⟩ := Option.bind_eq_some_iff.mp e'
  obtain ⟨d', hgd, e'⟩ := Option.bind_eq_some_iff.mp hgd
  split at e'
  case isFalse => cases e'
  rename_i hfl
  cases e'
  refine qa B σ env F H ds _ rr hx fun vs F1 H1 s1 t1 r1 b1 => ?_
  refine ⟨H1, ds, d, ⟨Same.refl _, r1.fh.th⟩, by simpa using b1.lenV.trans hl, by simpa using b1.rpH r1.fh, hgd, fun v F2 H2 got => ?_⟩
  obtain ⟨g', o, q⟩ := got
  have hv : Rp X.K F1 v d := (Own.bw 0 o : Rp X.K F2 v d).flatUp hfl
  have got2 : Got X.K F1 H1 F1 H2 0 d v := ⟨fun _ => 0, ⟨hv, fun _ => rfl⟩, ⟨r1.fh.up q.h0, q.h0, Same.refl _, fun _ _ h => .inl h, fun _ => Nat.zero_le _, fun _ h => absurd h (Nat.lt_irrefl _)⟩⟩
  obtain ⟨s3, t3, r3⟩ := r1.got got2
  exact k _ _ _ (s1.trans s3) (t1.trans t3) r3
def SM (K : PySem.W.Frag) (r : V → List V → Hp → VK → Prop) (ns : List Nat) (n : Nat) (g : Str → List D → Option D) : Prop := ∀ (F H : Hp) (x : Str) (xs : List V) (ds : List D) (d : D) (Q : VK), Sub F H → BwL K F H ns ds xs → g x ds = some d →
  (∀ v F' H', Got K F H F' H' n d v → Q v H') → r (.str x) xs H Q
def eM (g : Str → List D → Option D) (fo : EF) (fs : AF) : EF := fun env => (fo env).bind fun x => match x with | .str s => (fs env).bind fun ds => g s ds | _ => none
theorem se_mS {o e : Expr} {es : List Expr} {name : Str} {id : String} {apos cpos : Pos} {r : V → List V → Hp → VK → Prop} {fo : EF} {no : Nat} {fs : AF} {ns : List Nat} {n : Nat} {g : Str → List D → Option D} (hs : Slot "str" name id) (ht : typeOf (.builtin id) = pure (.type "method_descriptor")) (hm : MtR X id r) (hr : SM X.K r ns n g) (ho : SB X Γ o fo no Γ1) (ha : SA X Γ1 (e :: es) fs ns Γ2)
    (h1 : attributeBase o name X.env (eval o X.env) = eval o X.env := by rfl)
    (h2 : (((backTo cpos (starEach (e :: es) X.env)).all (fun x => !x.1)) && ((backToKw cpos (keywordEach [] X.env)).all (fun x => x.1.isSome)) && decide (((e :: es).length + ([] : List Keyword).length + (if ([] : List Keyword).isEmpty then 0 else 1)) < 30)) = true := by rfl)
    (h3 : (apos.endLine == cpos.line) = true := by rfl) (h4 : starEach (e :: es) X.env = (false, eval e X.env) :: starEach es X.env := by rfl) (h5 : (backTo cpos (starEach es X.env)).any (·.1) = false := by rfl) :
    SE X Γ (.Call (.Attribute o name apos) (e :: es) [] cpos) (eM g fo fs) n Γ2 := by
  obtain ⟨to, po, qo⟩ := ho
  obtain ⟨ta, pa, qa⟩ := ha
  refine ⟨_, pe_bm PySem.F.plainAttrs_str hs ht hm po pa h1 h2 h3 h4 h5, fun B σ env F H d Q rr e' k => ?_⟩
  obtain ⟨x, hx, e'⟩ := Option.bind_eq_some_iff.mp e'
  refine qo B σ env F H x _ rr hx fun v F1 H1 s1 t1 r1 b1 => ?_
  match x, b1, e' with
  | .str x, b1, e' =>
    obtain ⟨ds, hds, e'⟩ := Option.bind_eq_some_iff.mp e'
    have ev : v = .str x := (b1.rp r1.fh no).vstr
    subst ev
    refine ⟨rfl, qa B σ env F1 H1 ds _ r1 hds fun vs F2 H2 s2 t2 r2 b2 => ?_⟩
    refine hr F2 H2 x vs ds d Q r2.fh b2 e' fun w F3 H3 got => ?_
    obtain ⟨s3, t3, r3⟩ := r2.got got
    exact k w F3 H3 ((s1.trans s2).trans s3) ((t1.trans t2).trans t3) r3
def mSI (f : Str → Str → Int → D) : Str → List D → Option D := fun x ds => match ds with
  | [.str y, .int i] => some (f x y i)
  | _ => none
theorem sm_SI {f : Str → Str → Int → D} {u : Str → Str → Int → V} {na nb : Nat} (h : ∀ K F x y i, Rp K F (u x y i) (f x y i)) : SM K (fun x xs H Q => ∃ a b i, x = V.str a ∧ xs = [V.str b, V.int i] ∧ Q (u a b i) H) [na, nb] 0 (mSI f) := by
  intro F H x xs ds d Q s b e k
  obtain ⟨d1, v1, d2, v2, rfl, rfl, b1, b2⟩ := b.two
  match d1, d2, b1, b2, e with
  | .str y, .int i, b1, b2, e => cases e; exact ⟨x, y, i, rfl, by rw [(b1.rp s na).vstr, b2.vint s], k _ F H (got_val s (h _ _ _ _ _))⟩
def pSlS (d : D) (l h : Option Int) : Option D := match d with
  | .str x => if x.length ≤ 16777216 then some (.str (cutS x l h)) else none
  | _ => none
theorem se_slS {a : Expr} {lo hi : Option Expr} {p2 pos : Pos} {fa : EF} {fl fh : List D → Option (Option Int)} {na : Nat} {Γ3 : Ctx} (ha : SB X Γ a fa na Γ1) (hl : SO X Γ1 lo fl Γ2) (hh : SO X Γ2 hi fh Γ3) :
    SE X Γ (.Subscript a (.Slice lo hi none p2) pos) (eSl pSlS fa fl fh) 0 Γ3 := by
  refine se_sl L2.sl_str (fun F H x da d l h Q s a e k => ?_) ha hl hh
  match da, a, e with
  | .str z, a, e =>
    simp only [pSlS] at e
    split at e
    · rename_i c
      cases e
      exact ⟨z, (a.rp s na).vstr, szLine c, k _ F H (got_val s (.str _))⟩
    · cases e
theorem RpAll.set : ∀ {vs : List V} {ds : List D} {j : Nat} {v : V} {d : D}, RpAll K F vs ds → Rp K F v d → RpAll K F (vs.set j v) (ds.set j d)
  | _, _, _, _, _, .nil, _ => .nil
  | _, _, 0, _, _, .cons a b, h => .cons h b
  | _, _, j + 1, _, _, .cons a b, h => .cons a (RpAll.set b h)
end
end Pf

set_option Elab.async false
set_option linter.all false
set_option maxRecDepth 100000
set_option maxHeartbeats 4000000
namespace Pf
open PySem L2
def toK : D → Option Key
  | .int i => some (.inl i)
  | .str x => some (.inr x)
  | _ => none
def toKs : List D → Option (List Key)
  | [] => some []
  | d :: ds => (toK d).bind fun k => (toKs ds).map (k :: ·)
def toKT : D → Option (List Key)
  | .tuple ds => toKs ds
  | _ => none
section
variable {κ : Type} [DecidableEq κ]
end
def valN (l : NL) (k : NestedKey) : Option V := (l.find? fun p => decide (p.1 = k)).map (·.2.2)
def putN (l : NL) (k : NestedKey) (b : Addr) (v : V) : NL := if (valN l k).isSome = true then l.map (fun p => if p.1 = k then (p.1, p.2.1, v) else p) else l ++ [(k, b, v)]
theorem NRel.val {l : NL} {xs : List (NestedKey × Addr × Value)} (r : NRel l xs) (k : NestedKey) : RelO (valN l k) ((atKey xs k).map (·.2)) := by
  unfold NRel at r
  induction r with
  | nil => exact True.intro
  | @cons p q ps qs h t ih =>
    obtain ⟨h1, _, h2⟩ := h
    by_cases e : p.1 = k
    · have e' : q.1 = k := h1.symm.trans e
      have b : atKey (q :: qs) k = some q.2 := by simp [atKey, List.find?_cons, e']
      have c : valN (p :: ps) k = some p.2.2 := by simp [valN, List.find?_cons, e]
      rw [c, b]; exact h2
    · have e' : ¬ q.1 = k := fun z => e (h1.trans z)
      have b : atKey (q :: qs) k = atKey qs k := by simp [atKey, List.find?_cons, e']
      have c : valN (p :: ps) k = valN ps k := by simp [valN, List.find?_cons, e]
      rw [c, b]; exact ih
theorem NRel.put {l : NL} {xs : List (NestedKey × Addr × Value)} (r : NRel l xs) (k : NestedKey) {b : Addr} {y : V} {u : Value} (ry : RelV y u) : NRel (putN l k b y) (storedH xs k b u) := by
  have e : (valN l k).isSome = (atKey xs k).isSome := by rw [(r.val k).isSome_eq, Option.isSome_map]
  unfold putN storedH
  rw [e]
  by_cases q : (atKey xs k).isSome = true
  · rw [if_pos q, if_pos q]
    unfold NRel at r ⊢
    clear e q
    induction r with
    | nil => exact .nil
    | @cons p q ps qs h t ih =>
      rw [List.map_cons, List.map_cons]
      refine .cons ?_ ih
      obtain ⟨h1, h2, h3⟩ := h
      unfold putAt
      by_cases e : p.1 = k
      · rw [if_pos e, if_pos (h1.symm.trans e)]; exact ⟨h1, h2, ry⟩
      · rw [if_neg e, if_neg (fun z => e (h1.trans z))]; exact ⟨h1, h2, h3⟩
  · rw [if_neg q, if_neg q]; exact Paired.snoc r ⟨rfl, rfl, ry⟩
section
variable {X : Cx} {pins : List (Addr × Obj)} {σ : St} {H : Hp} {s : Shared} {a : Addr} {y v : V} {u r : Value} {o : Option V} {A : Around} {E : Value → Shared → Prop}
end
section
variable {X : Cx} {o i e value : Expr} {pos pos' tpos : Pos} {td ty tv : TE}
end
section
variable {X : Cx} {L : Lp} {Γ Γ1 Γ2 Γ3 Γ' : Ctx} {K : PySem.W.Frag} {F F' H H' : Hp} {B : Bs}
theorem Rp.key {v : V} {d : D} {k : Key} (h : Rp K F v d) (e : toK d = some k) : v = kV k := by
  cases h <;> simp [toK] at e <;> subst e <;> rfl
theorem RpAll.keys : ∀ {vs : List V} {ds : List D} {ks : List Key}, RpAll K F vs ds → toKs ds = some ks → vs = ks.map kV
  | _, _, _, .nil, e => by cases e; rfl
  | _, _, _, .cons a b, e => by
    obtain ⟨k, h1, h2⟩ := Option.bind_eq_some_iff.mp e
    obtain ⟨ks, h3, rfl⟩ := Option.map_eq_some_iff.mp h2
    rw [a.key h1, RpAll.keys b h3]; rfl
theorem Rp.keyT {v : V} {d : D} {k : List Key} (h : Rp K F v d) (e : toKT d = some k) : ∃ b, v = .ref b ∧ F b = some (.tup (k.map kV)) := by
  cases h with
  | tup s r => exact ⟨_, rfl, by rw [s, r.keys e]⟩
  | _ => simp [toKT] at e
theorem rpAll_bw : ∀ {vs : List V} {ds : List D}, RpAll K F vs ds → BwAll (fun d v => Rp K F v d) ds vs
  | _, _, .nil => trivial
  | _, _, .cons a b => ⟨a, rpAll_bw b⟩
theorem Bw.dic {n : Nat} {v : V} {kvs : List (D × D)} (s : Sub F H) (h : Bw K F H n (.dict kvs) v) : ∃ a o vs, v = .ref a ∧ H a = some o ∧ DicO a o kvs vs ∧ BwAll (Bw K F H (n - 1)) (kvs.map (·.2)) vs := by
  cases n with
  | zero =>
    obtain ⟨a, o, vs, e, h1, h2, h3⟩ := Rp.vdic (show Rp K F v (.dict kvs) from h)
    exact ⟨a, o, vs, e, s _ _ h1, h2, rpAll_bw h3⟩
  | succ n => exact h
theorem own0_zero : ∀ {ds : List D} {vs : List V} {f : Fp}, OwnAll (Own K F H 0) ds vs f → ∀ b, f b = 0
  | [], [], _, h, b => h b
  | _ :: _, _ :: _, f, ⟨f1, f2, hp, hq, he⟩, b => by have := he b; have := hp.2 b; have := own0_zero hq b; omega
  | [], _ :: _, _, h, _ => h.elim
  | _ :: _, [], _, h, _ => h.elim
end
end Pf

set_option Elab.async false
set_option linter.all false
set_option maxRecDepth 100000
set_option maxHeartbeats 4000000
namespace Pf
open PySem L2
section
variable {X : Cx} {L : Lp} {Γ Γ1 Γ2 Γ3 Γ' : Ctx} {K : PySem.W.Frag} {F F' H H' : Hp} {B : Bs}
theorem set_self' {α : Type} {xs : List α} {i : Nat} {x : α} (h : xs[i]? = some x) : xs.set i x = xs := by
  apply List.ext_getElem?
  intro j
  by_cases c : i = j
  · subst c
    rw [List.getElem?_set_self (List.getElem?_eq_some_iff.mp h).1, h]
  · rw [List.getElem?_set_ne c]
theorem own0_rp : ∀ {ds : List D} {vs : List V} {f : Fp}, OwnAll (Own K F H 0) ds vs f → RpAll K F vs ds := fun oa => OwnAll.frz (fun d v f h => h.1) oa
theorem app_nx {i : Nat} {f : EF} {env : List D} {d : D} {ds : List D} (h : f env = some d) (hx : env[i]? = some (.list ds)) (hz : ds.length < 16777216) : sApp i f env = some (.nx (env.set i (.list (ds ++ [d])))) := by
  unfold sApp
  rw [h, Option.bind_some, hx, Option.bind_some]
  exact if_pos hz
end
end Pf

set_option Elab.async false
set_option linter.all false
set_option maxRecDepth 100000
set_option maxHeartbeats 4000000
namespace Pf
open PySem L2
section
variable {X : Cx} {L : Lp} {Γ Γ0 Γ1 Γ2 Γ3 Γ4 Γ5 Γ6 Γ7 Γ8 Γ' : Ctx} {K : PySem.W.Frag} {F F' H H' : Hp} {B : Bs}
structure SameBut (D : Addr) (H H' : Hp) : Prop where
  st : ∀ b u, b ≠ D → H b = some u → NT u → H' b = some u
  dom : ∀ b, H' b = none → H b = none
  tb : TB H → TB H'
theorem SameBut.refl {D : Addr} {H : Hp} : SameBut D H H := ⟨fun _ _ _ h _ => h, fun _ h => h, id⟩
theorem SameBut.trans {D : Addr} {H H1 H2 : Hp} (a : SameBut D H H1) (b : Same H1 H2) : SameBut D H H2 := ⟨fun c o d h n => b.st c o (a.st c o d h n) n, fun c h => a.dom c (b.dom c h), fun t => b.tb (a.tb t)⟩
theorem SameBut.put {D : Addr} {H H1 : Hp} {o u : HO} (a : SameBut D H H1) (h : H1 D = some u) (n1 : NT u := by first | assumption | (intro ps z; cases z; done) | (intro ps z; unfold LamX.CodeO at z; cases z; done) | exact DicO.nt (by assumption) | exact DicO.nc (by assumption) | exact fun _ => dn_nc | (intro ps z; unfold DN at z; cases z; done) | fail) (n2 : ∀ q, u ≠ LamX.CodeO D q := by first | assumption | (intro ps z; cases z; done) | (intro ps z; unfold LamX.CodeO at z; cases z; done) | exact DicO.nt (by assumption) | exact DicO.nc (by assumption) | exact fun _ => dn_nc | (intro ps z; unfold DN at z; cases z; done) | fail) : SameBut D H (upd H1 D o) :=
  ⟨fun c v d e n => by rw [upd_ne d]; exact a.st c v d e n, fun c e => by
    by_cases d : c = D
    · subst d; rw [upd_same] at e; cases e
    · rw [upd_ne d] at e; exact a.dom c e, fun t => tb_put (a.tb t) h n1 n2⟩
def canI (K : PySem.W.Frag) (Γ : Ctx) (fs : AF) (Γ' : Ctx) : TI := fun σ H R => ∃ B env F ds, Rel K B Γ σ env F H ∧ fs env = some ds ∧ ∀ J F' H', Same F F' → Same H H' → Rel K B Γ' σ env F' H' → ItOk K F' J ds → R J H'
theorem SI.can {tg e : Expr} {fs : AF} (h : SI X Γ tg e fs Γ') : PI X tg e (canI X.K Γ fs Γ') := by
  obtain ⟨wi, p, q⟩ := h
  exact ⟨fun pins s σ H R I ⟨B, env, F, ds, h1, h2, h3⟩ => p.run pins s σ H R I (q B σ env F H ds R h1 h2 h3)⟩
instance : ∀ i j, Decidable (CMul i j) := fun i j => by unfold CMul; infer_instance
end
end Pf

set_option Elab.async false
set_option linter.all false
set_option maxRecDepth 100000
set_option maxHeartbeats 4000000
namespace Pf
open PySem L2
section
variable {X : Cx} {L : Lp} {Γ Γ0 Γ1 Γ2 Γ3 Γ4 Γ5 Γ6 Γ7 Γ8 Γ' : Ctx} {K : PySem.W.Frag} {F F' H H' : Hp} {B : Bs}
end
end Pf

set_option Elab.async false
set_option linter.all false
set_option maxRecDepth 100000
set_option maxHeartbeats 4000000
namespace Pf
open PySem L2
inductive Kd where | lst | tup
section
variable {P : Program} {w : World} {K : PySem.W.Frag}
variable {X : Cx} {Γ Γ1 Γ2 Γ3 Γ' : Ctx} {F F' H H' : Hp}
end
end Pf

set_option Elab.async false
set_option linter.all false
set_option maxRecDepth 100000
set_option maxHeartbeats 4000000
namespace Pf
open PySem L2
section
variable {P : Program} {w : World} {K : PySem.W.Frag}
variable {X : Cx} {Γ Γ1 Γ2 Γ3 Γ' : Ctx} {F F' H H' : Hp}
end
end Pf

set_option Elab.async false
set_option linter.all false
set_option maxRecDepth 100000
set_option maxHeartbeats 4000000
namespace Pf
open PySem L2
section
variable {X : Cx} {L : Lp} {Γ Γ0 Γ1 Γ2 Γ3 Γ4 Γ' : Ctx} {K : PySem.W.Frag} {F F' H H' : Hp} {B : Bs}
theorem PE.or' {e : Expr} {t t' : TE} (h : PE X e t) (h' : PE X e t') : PE X e (fun σ H Q => t σ H Q ∨ t' σ H Q) :=
  ⟨fun pins s σ H Q I q => q.elim (h.run pins s σ H Q I) (h'.run pins s σ H Q I)⟩
theorem SE.or {e : Expr} {f f1 f2 : EF} {n : Nat} (h1 : SE X Γ e f1 n Γ') (h2 : SE X Γ e f2 n Γ') (hf : ∀ env d, f env = some d → f1 env = some d ∨ f2 env = some d) : SE X Γ e f n Γ' := by
  obtain ⟨t1, p1, q1⟩ := h1
  obtain ⟨t2, p2, q2⟩ := h2
  refine ⟨_, PE.or' p1 p2, fun B σ env F H d Q r e k => ?_⟩
  rcases hf env d e with e | e
  · exact .inl (q1 B σ env F H d Q r e k)
  · exact .inr (q2 B σ env F H d Q r e k)
end
end Pf

set_option Elab.async false
set_option linter.all false
set_option maxRecDepth 100000
set_option maxHeartbeats 4000000
namespace Pf
open PySem L2
section
variable {X : Cx} {L : Lp} {Γ Γ1 Γ2 Γ3 Γ' : Ctx} {K : PySem.W.Frag} {F F' H H' : Hp} {B : Bs}
structure Shw (d : D) : Prop where
  nd : nd d = true
  sh : d.showable = true
  dp : d.depth ≤ 64
  sz : d.shown.length ≤ 16777216
instance {d : D} : Decidable (Shw d) := decidable_of_iff (nd d = true ∧ d.showable = true ∧ d.depth ≤ 64 ∧ d.shown.length ≤ 16777216) ⟨fun h => ⟨h.1, h.2.1, h.2.2.1, h.2.2.2⟩, fun h => ⟨h.nd, h.sh, h.dp, h.sz⟩⟩
end
end Pf

set_option Elab.async false
set_option linter.all false
set_option maxRecDepth 100000
set_option maxHeartbeats 4000000
namespace Pf
open PySem L2
def thenO (o : Option Out) (g : SF) : Option Out := o.bind fun o => match o with | .nx e => g e | .rt d => some (.rt d) | .bk e => some (.bk e) | .ct e => some (.ct e)
theorem r_seq {f g : SF} {env : List D} : sSeq f g env = thenO (f env) g := rfl
theorem r_nx {e : List D} {g : SF} : thenO (some (.nx e)) g = g e := rfl
def setO (i : Nat) (o : Option D) (env : List D) : Option Out := o.bind fun d => some (.nx (env.set i d))
theorem r_set {i : Nat} {f : EF} {env : List D} : sSet i f env = setO i (f env) env := rfl
theorem r_setO {i : Nat} {d : D} {env : List D} : setO i (some d) env = some (.nx (env.set i d)) := rfl
def retO (o : Option D) : Option Out := o.bind fun d => some (.rt d)
theorem r_ret {f : EF} {env : List D} : sRet f env = retO (f env) := rfl
theorem r_skip {env : List D} : sSkip env = some (.nx env) := rfl
theorem r_V {i : Nat} {env : List D} : eV i env = env[i]? := rfl
theorem r_C {d : D} {env : List D} : eC d env = some d := rfl
def b2 (g : D → D → Option D) (a b : Option D) : Option D := a.bind fun x => b.bind fun y => g x y
theorem r_e2 {g : D → D → Option D} {fa fb : EF} {env : List D} : e2 g fa fb env = b2 g (fa env) (fb env) := rfl
theorem r_b2 {g : D → D → Option D} {x y : D} : b2 g (some x) (some y) = g x y := rfl
def b1 (g : D → Option D) (a : Option D) : Option D := a.bind g
theorem r_e1 {g : D → Option D} {fa : EF} {env : List D} : e1 g fa env = b1 g (fa env) := rfl
def bL (g : List D → Option D) (a : Option (List D)) : Option D := a.bind g
theorem r_eL {g : List D → Option D} {fs : AF} {env : List D} : eL g fs env = bL g (fs env) := rfl
def c2 (a : Option D) (b : Option (List D)) : Option (List D) := a.bind fun x => b.bind fun xs => some (x :: xs)
theorem r_aC {fa : EF} {fs : AF} {env : List D} : aC fa fs env = c2 (fa env) (fs env) := rfl
theorem r_aN {env : List D} : aN env = some [] := rfl
def tupO (o : Option (List D)) : Option D := o.bind fun ds => if ds.length ≤ 16777216 then some (.tuple ds) else none
theorem r_tup {fs : AF} {env : List D} : eTup fs env = tupO (fs env) := rfl
theorem r_tup2 {a b : D} : tupO (some [a, b]) = some (.tuple [a, b]) := by simp [tupO]
theorem r_tup3 {a b c : D} : tupO (some [a, b, c]) = some (.tuple [a, b, c]) := by simp [tupO]
theorem r_tup4 {a b c d : D} : tupO (some [a, b, c, d]) = some (.tuple [a, b, c, d]) := by simp [tupO]
def lstO (o : Option (List D)) : Option D := o.bind fun ds => if ds.length ≤ 16777216 then some (.list ds) else none
theorem r_lst {fs : AF} {env : List D} : eLst fs env = lstO (fs env) := rfl
theorem r_lst3 {a b c : D} : lstO (some [a, b, c]) = some (.list [a, b, c]) := by simp [lstO]
def trO (o : Option D) : Option Bool := o.bind truth
theorem r_tT {f : EF} {env : List D} : tT f env = trO (f env) := rfl
def notT (o : Option Bool) : Option Bool := o.map (!·)
theorem r_tNot {c : TF} {env : List D} : tNotF c env = notT (c env) := rfl
def slO (g : D → Option Int → Option Int → Option D) (a : Option D) (l h : Option (Option Int)) : Option D := a.bind fun x => l.bind fun l => h.bind fun h => g x l h
theorem r_sl {g : D → Option Int → Option Int → Option D} {fa : EF} {fl fh : List D → Option (Option Int)} {env : List D} : eSl g fa fl fh env = slO g (fa env) (fl env) (fh env) := rfl
def osO (o : Option D) : Option (Option Int) := o.bind fun d => match d with | .int i => some (some i) | _ => none
theorem r_oS {f : EF} {env : List D} : oS f env = osO (f env) := rfl
theorem r_gtI {a b : Int} : pGt (.int a) (.int b) = some (.bool (decide (b < a))) := rfl
theorem r_lenL {xs : List D} : lenD [.list xs] = some (.int xs.length) := rfl
def asgO (g : D → List D → Option (List D)) (o : Option D) (env : List D) : Option Out := o.bind fun d => (g d env).bind fun env' => some (.nx env')
theorem r_asg {g : D → List D → Option (List D)} {f : EF} {env : List D} : sAsg g f env = asgO g (f env) env := rfl
def Stp (o : Option Out) (I : List D → Prop) (R : D → Prop) (S : List D → Prop) : Prop := match o with
  | some (.nx e) => I e
  | some (.ct e) => I e
  | some (.rt d) => R d
  | some (.bk e) => S e
  | none => False
def StG (o : Option (List D)) (body : SF) (I : List D → Prop) (R : D → Prop) (S : List D → Prop) : Prop := match o with
  | some e => Stp (body e) I R S
  | none => False
theorem for_stop {α : Type} {enc : α → D} {g : D → List D → Option (List D)} {body : SF} (I : List α → List D → Prop) (R : List α → α → D → Prop) (S : List α → α → List D → Prop) : ∀ {xs done : List α} {env : List D}, I done env →
    (∀ a x b e, done ++ xs = a ++ x :: b → I a e → StG (g (enc x) e) body (I (a ++ [x])) (R a x) (S a x)) →
    (∃ e', sFor g body (xs.map enc) env = some (.nx e') ∧ I (done ++ xs) e') ∨ (∃ a x b d, done ++ xs = a ++ x :: b ∧ sFor g body (xs.map enc) env = some (.rt d) ∧ R a x d) ∨ (∃ a x b e', done ++ xs = a ++ x :: b ∧ sFor g body (xs.map enc) env = some (.nx e') ∧ S a x e')
  | [], done, env, h0, _ => .inl ⟨env, rfl, by simpa using h0⟩
  | x :: xs, done, env, h0, hs => by
    have h2 := hs done x xs env rfl h0
    rw [List.map_cons]
    cases hg : g (enc x) env with
    | none => rw [hg] at h2; exact h2.elim
    | some e1 =>
      rw [hg] at h2
      have h2 : Stp (body e1) (I (done ++ [x])) (R done x) (S done x) := h2
      have go : ∀ e2, (body e1 = some (.nx e2) ∨ body e1 = some (.ct e2)) → I (done ++ [x]) e2 → (∃ e', sFor g body (enc x :: xs.map enc) env = some (.nx e') ∧ I (done ++ x :: xs) e') ∨ (∃ a y b d, done ++ x :: xs = a ++ y :: b ∧ sFor g body (enc x :: xs.map enc) env = some (.rt d) ∧ R a y d) ∨ (∃ a y b e', done ++ x :: xs = a ++ y :: b ∧ sFor g body (enc x :: xs.map enc) env = some (.nx e') ∧ S a y e') := by
        intro e2 h2 h3
        have ih := for_stop (xs := xs) (done := done ++ [x]) I R S h3 (fun a y b e q => hs a y b e (by rw [← q]; simp))
        have step : sFor g body (enc x :: xs.map enc) env = sFor g body (xs.map enc) e2 := by
          rcases h2 with h2 | h2 <;> simp only [sFor, hg, Option.bind_some, h2]
        rw [step]
        simpa only [List.append_assoc, List.singleton_append] using ih
      cases hb : body e1 with
      | none => rw [hb] at h2; exact h2.elim
      | some o =>
        rw [hb] at h2
        cases o with
        | nx e2 => exact go e2 (.inl hb) h2
        | ct e2 => exact go e2 (.inr hb) h2
        | rt d => exact .inr (.inl ⟨done, x, xs, d, rfl, by simp only [sFor, hg, Option.bind_some, hb], h2⟩)
        | bk e2 => exact .inr (.inr ⟨done, x, xs, e2, rfl, by simp only [sFor, hg, Option.bind_some, hb], h2⟩)
theorem rng_at {n x : Nat} {a b : List Nat} (h : List.range n = a ++ x :: b) : x = a.length ∧ a = List.range a.length ∧ x < n := by
  have l : n = a.length + (b.length + 1) := by have := congrArg List.length h; simpa using this
  have g : (List.range n)[a.length]? = some x := by rw [h]; simp
  have x1 : x = a.length := by
    rw [List.getElem?_range (by omega)] at g
    exact (Option.some.inj g).symm
  refine ⟨x1, ?_, by omega⟩
  have t : (List.range n).take a.length = a := by rw [h]; simp
  rw [List.take_range] at t
  rw [show min a.length n = a.length by omega] at t
  exact t.symm
theorem for_rngS {lo : Int} {n : Nat} {g : D → List D → Option (List D)} {body : SF} (I : Nat → List D → Prop) (R : Nat → D → Prop) (S : Nat → List D → Prop) {env : List D} (h0 : I 0 env)
    (hs : ∀ i e, i < n → I i e → StG (g (.int (lo + (i : Nat))) e) body (I (i + 1)) (R i) (S i)) :
    (∃ e', sFor g body (rngD lo n) env = some (.nx e') ∧ I n e') ∨ (∃ i d, i < n ∧ sFor g body (rngD lo n) env = some (.rt d) ∧ R i d) ∨ (∃ i e', i < n ∧ sFor g body (rngD lo n) env = some (.nx e') ∧ S i e') := by
  rcases for_stop (enc := fun (i : Nat) => PyData.int (lo + (i : Nat))) (g := g) (body := body) (fun a e => I a.length e) (fun a _ d => R a.length d) (fun a _ e => S a.length e) (xs := List.range n) (done := []) (env := env) h0 (fun a x b e q h => by
    obtain ⟨q1, q2, q3⟩ := rng_at q
    rw [List.length_append, q1]
    exact hs a.length e (by omega) h) with ⟨e', h1, h2⟩ | ⟨a, x, b, d, q, h1, h2⟩ | ⟨a, x, b, d, q, h1, h2⟩
  · exact .inl ⟨e', h1, by simpa using h2⟩
  · obtain ⟨q1, q2, q3⟩ := rng_at q
    exact .inr (.inl ⟨a.length, d, by omega, h1, h2⟩)
  · obtain ⟨q1, q2, q3⟩ := rng_at q
    exact .inr (.inr ⟨a.length, d, by omega, h1, h2⟩)
theorem for_rng {lo : Int} {n : Nat} {g : D → List D → Option (List D)} {body : SF} (I : Nat → List D → Prop) {env : List D} (h0 : I 0 env)
    (hs : ∀ i e, i < n → I i e → StG (g (.int (lo + (i : Nat))) e) body (I (i + 1)) (fun _ => False) (fun _ => False)) :
    ∃ e', sFor g body (rngD lo n) env = some (.nx e') ∧ I n e' := by
  rcases for_rngS I (fun _ _ => False) (fun _ _ => False) h0 hs with h | ⟨_, _, _, _, h⟩ | ⟨_, _, _, _, h⟩
  · exact h
  · exact h.elim
  · exact h.elim
theorem while_inv {c : TF} {body : SF} (I : Nat → List D → Prop) (E : List D → Prop) (hs : ∀ n e, I n e → (c e = some false ∧ E e) ∨ (c e = some true ∧ Stp (body e) (fun e2 => ∃ m, m < n ∧ I m e2) (fun _ => False) E)) :
    ∀ (n : Nat) (env : List D), I n env → ∃ e', sWhile c body env = some (.nx e') ∧ E e' := by
  suffices hh : ∀ (n : Nat) (env : List D), I n env → ∃ e', (∃ k, sWh c body k env = some (.nx e')) ∧ E e' from fun n env h => by
    obtain ⟨e', ⟨k, hk⟩, he⟩ := hh n env h
    exact ⟨e', sWhile_eq hk, he⟩
  intro n
  induction n using Nat.strongRecOn with
  | _ n ih =>
    intro env h
    rcases hs n env h with ⟨h1, h2⟩ | ⟨h1, h2⟩
    · exact ⟨env, ⟨1, by simp [sWh, h1]⟩, h2⟩
    · cases hb : body env with
      | none => rw [hb] at h2; exact h2.elim
      | some o =>
        rw [hb] at h2
        cases o with
        | rt d => exact h2.elim
        | bk e2 => exact ⟨e2, ⟨1, by simp [sWh, h1, hb]⟩, h2⟩
        | nx e2 =>
          obtain ⟨m, hm, h4⟩ := h2
          obtain ⟨e', ⟨k, hk⟩, he⟩ := ih m hm e2 h4
          exact ⟨e', ⟨k + 1, by simp only [sWh, h1, Option.bind_some, if_true, hb]; exact hk⟩, he⟩
        | ct e2 =>
          obtain ⟨m, hm, h4⟩ := h2
          obtain ⟨e', ⟨k, hk⟩, he⟩ := ih m hm e2 h4
          exact ⟨e', ⟨k + 1, by simp only [sWh, h1, Option.bind_some, if_true, hb]; exact hk⟩, he⟩
end Pf

set_option Elab.async false
set_option linter.all false
set_option maxRecDepth 100000
set_option maxHeartbeats 4000000
namespace Pf
open PySem L2
section
variable {P : Program} {w : World} {K : PySem.W.Frag}
variable {X : Cx} {Γ Γ1 Γ2 Γ3 Γ' : Ctx} {F F' H H' : Hp}
end
end Pf

set_option Elab.async false
set_option linter.all false
set_option maxRecDepth 100000
set_option maxHeartbeats 4000000
namespace Pf
open PySem L2
section
variable {X : Cx} {L : Lp} {Γ Γ0 Γ1 Γ2 Γ3 Γ4 Γ' : Ctx} {K : PySem.W.Frag} {F F' H H' : Hp} {B : Bs}
theorem OwnAll.at {P : D → V → Fp → Prop} : ∀ {ds : List D} {vs : List V} {f : Fp} {k : Nat} {d : D} {v : V}, OwnAll P ds vs f → ds[k]? = some d → vs[k]? = some v →
    ∃ (f1 f2 : Fp), P d v f1 ∧ (∀ b, f b = f1 b + f2 b) ∧ ∀ (Q : D → V → Fp → Prop), (∀ d v g, (∀ b, g b ≤ f2 b) → P d v g → Q d v g) → ∀ d' f1', Q d' v f1' → OwnAll Q (ds.set k d') vs (fun b => f1' b + f2 b)
  | d :: ds, v :: vs, f, 0, _, _, ⟨f1, f2, a, b, e⟩, hd, hv => by
    simp at hd hv
    subst hd hv
    exact ⟨f1, f2, a, e, fun Q hQ d' f1' q => ⟨f1', f2, q, OwnAll.imp f2 hQ (fun _ => Nat.le_refl _) b, fun _ => rfl⟩⟩
  | d :: ds, v :: vs, f, k + 1, d0, v0, ⟨f1, f2, a, b, e⟩, hd, hv => by
    obtain ⟨g1, g2, h1, h2, h3⟩ := OwnAll.at (k := k) b (by simpa using hd) (by simpa using hv)
    refine ⟨g1, fun x => f1 x + g2 x, h1, fun x => by have := e x; have := h2 x; show f x = g1 x + (f1 x + g2 x); omega, fun Q hQ d' f1' q => ?_⟩
    have := h3 Q (fun d v g hg => hQ d v g fun x => by have := hg x; show g x ≤ f1 x + g2 x; omega) d' f1' q
    exact ⟨f1, _, hQ _ _ _ (fun x => by show f1 x ≤ f1 x + g2 x; omega) a, this, fun x => by show f1' x + (f1 x + g2 x) = f1 x + (f1' x + g2 x); omega⟩
  | [], [], _, _, _, _, _, hd, _ => by simp at hd
  | [], _ :: _, _, _, _, _, h, _, _ => h.elim
  | _ :: _, [], _, _, _, _, h, _, _ => h.elim
theorem set_self2 {α : Type} {xs : List α} {i : Nat} {x : α} (h : xs[i]? = some x) : xs.set i x = xs := by
  apply List.ext_getElem?
  intro j
  by_cases c : i = j
  · subst c
    rw [List.getElem?_set_self (List.getElem?_eq_some_iff.mp h).1, h]
  · rw [List.getElem?_set_ne c]
end
end Pf

set_option Elab.async false
set_option linter.all false
set_option maxRecDepth 100000
set_option maxHeartbeats 4000000
namespace Pf
open PySem L2
end Pf

set_option Elab.async false
set_option linter.all false
set_option maxRecDepth 100000
set_option maxHeartbeats 4000000
namespace Pf
open PySem L2 RT
section
variable {X : Cx} {L : Lp} {Γ Γ0 Γ1 Γ2 Γ3 Γ4 Γ' : Ctx} {K : PySem.W.Frag} {F F' H H' : Hp} {B : Bs}
end
end Pf

set_option Elab.async false
set_option linter.all false
set_option maxRecDepth 100000
set_option maxHeartbeats 4000000
namespace Pf
open PySem L2 RT PySem.Calls PyProof.Rows
section
variable {prog : Program} {w : World} {A : Around} {E : Value → Shared → Prop} {s : Shared}
end
section
variable {X : Cx} {Γ Γ1 : Ctx}
variable {Γ0 Γ2 Γ' : Ctx} {F F' H H' : Hp} {B : Bs}
end
end Pf

set_option Elab.async false
set_option linter.all false
set_option maxRecDepth 100000
set_option maxHeartbeats 4000000
namespace Pf
open PySem L2
def unX : D → Option D
  | .dict [(.bool true, x)] => some x
  | _ => none
theorem unX_mk {x : D} : unX (mkX x) = some x := rfl
theorem unX_some {d x : D} (h : unX d = some x) : d = mkX x := by
  unfold unX at h
  split at h
  · cases h; rfl
  · cases h
section
variable {X : Cx} {L : Lp} {Γ Γ1 Γ2 Γx Γ' : Ctx} {K : PySem.W.Frag} {F F' H H' : Hp} {B : Bs}
def SEX (X : Cx) (L : Lp) (Γ : Ctx) (e : Expr) (f : EF) (n : Nat) (Γ' : Ctx) : Prop :=
  ∃ t : TE, PE X e t ∧ ∀ (B : Bs) (σ : St) (env : List D) (F H : Hp) (d : D) (Q : VK), Rel X.K B Γ σ env F H → f env = some d →
    (∀ v F' H', Same F F' → RelT X.K B Γ' σ env F' H' n d v → Q v H') → (∀ x, d = mkX x → ∀ c dd F' H', Same F F' → Rel X.K B Γ' σ env F' H' → ExIs X.K F' c dd x → L.wx c dd σ H') → t σ H Q
theorem Rel.ok0 {σ : St} {env : List D} (r : Rel K B Γ σ env F H) : Ok B F H (fun _ => 0) := by
  obtain ⟨f, s, ok⟩ := r
  exact ok.less fun a => Nat.zero_le _
theorem SEX.sub {e : Expr} {f : EF} {n m : Nat} (h : SEX X L Γ e f n Γ1) (hm : m ≤ n) : SEX X L Γ e f m Γ1 := by
  obtain ⟨t, p, q⟩ := h
  refine ⟨t, p, fun B σ env F H d Q r e k kx => q B σ env F H d Q r e (fun v F' H' s1 r2 => ?_) kx⟩
  obtain ⟨F2, u, r3⟩ := r2.down (leC_refl _) hm
  exact k v F2 H' (s1.trans u) r3
def SBd (X : Cx) (L : Lp) (Γ Γx : Ctx) (st : Stmt) (f : SF) (Γ' : Ctx) : Prop :=
  ∃ t : TS, PS X st t ∧ ∀ (B : Bs) (σ : St) (env : List D) (F H : Hp) (o : Out) (E : Ends), Rel X.K B Γ σ env F H → f env = some o → PostS X.K B ⟨L.ρ, L.bk, L.ct, L.pin, fun _ _ _ _ => True⟩ Γ' F σ env E o →
    (∀ x, o = .rt (mkX x) → ∀ c dd F' H', Same F F' → Rel X.K B Γx σ env F' H' → ExIs X.K F' c dd x → L.wx c dd σ H') → t E σ H
theorem SBd.sub {st : Stmt} {f : SF} (h : SBd X L Γ Γx st f Γ1) (l : LeC Γ' Γ1 = true) : SBd X L Γ Γx st f Γ' := by
  obtain ⟨t, p, q⟩ := h
  exact ⟨t, p, fun B σ env F H o E r e k kx => q B σ env F H o E r e (k.down l) kx⟩
end
end Pf

set_option Elab.async false
set_option linter.all false
set_option maxRecDepth 100000
set_option maxHeartbeats 4000000
namespace Pf
open PySem PySem.W PySem.Calls PyProof.Rows L2
def tmA (p1 p2 : Pos) : Arguments := { posonlyargs := [], args := [{ arg := "self", annotation := none, pos := p1 }, { arg := "what", annotation := none, pos := p2 }], vararg := none, kwonlyargs := [], kw_defaults := [], kwarg := none, defaults := [] }
def tmB (p0 p1 p2 p3 p4 p5 p6 p7 p8 q1 q2 q3 q4 : Pos) : List Stmt :=
  [.Expr (.Call (.Attribute (.Call (.Name "super" p0) [] [] p1) "__init__" p2) [.JoinedStr [.Constant (.str "too many ") 0 p3, .FormattedValue (.Name "what" p4) (-1) none p5] p6] [] p7) p8,
   .Assign [.Attribute (.Name "self" q1) "what" q2] (.Name "what" q3) q4]
def tmS : Scope := { kind := .function, names := [(PySem.Str.ofString "self", .local), (PySem.Str.ofString "what", .local), (PySem.Str.ofString "__class__", .free), (PySem.Str.ofString "super", .globalImplicit)], isGenerator := false, isCoroutine := false, more := [] }
structure TmTxt (P : Program) (K : Frag) (C fI : Addr) (fd : FuncData) : Prop where
  oex : OexC K C
  ini : excInitIn K C [.type "ValueError", .type "Exception", .type "BaseException", .type "object"] "ValueError.__new__" = true
  noW : findIn K (.ref C) "what" = some none
  sup : ks_superIn K C C "__init__" = some (some (.builtin "ValueError.__init__"))
  sVE : subIn K (.ref C) (.type "ValueError") = some true
  tpa : nsIn K cStatics "thirdparty.any" = some none
  mro : mroIn K C (.ref C) = some true
  noS : nsIn K mainGlobals "super" = some none
  top : (P.main.scope.names.lookup ("super" : Str)).isSome = false
  fn : ∃ (oc : Value) (od : Option Addr) (doc pm : Value) (an : Option Addr) (ct : Value) (osl : Array (Option Value)) (cc cda : Addr) (q : Str) (p1 p2 p0 p3 p4 p5 p6 p7 p8 p9 p10 q1 q2 q3 q4 : Pos),
    fd = ksFn "__init__" q (tmA p1 p2) (tmB p0 p3 p4 p5 p6 p7 p8 p9 p10 q1 q2 q3 q4) tmS .none .none doc pm an (.ref cda) ct cc ∧ K.lookup fI = some ⟨oc, od, .func fd, osl⟩ ∧ codeIn K (.ref cda) q = true ∧ (p4.endLine == p9.line) = true ∧
      (∃ (ccl : Value) (cdd : Option Addr) (vs : Array Value) (ccs : Array (Option Value)) (file : Str) (tf : Tok), K.lookup cda = some ⟨ccl, cdd, .fields vs, ccs⟩ ∧ vs[2]? = some (.str file tf) ∧ ((P.main.file : Str) == file) = true) ∧
      ∃ (cl : Value) (cld : Option Addr) (csl : Array (Option Value)), K.lookup cc = some ⟨cl, cld, .cell (some (.ref C)), csl⟩
section
variable {P : Program} {w : World} {A : Around} {R : Result → Shared → Prop} {s : Shared} {K : Frag} {mg mb : Str → Option Value} {C fI x t0 : Addr} {y : Str} {tk : Tok}
end
section
variable {X : Cx} {L : Lp} {Γ Γ1 : Ctx}
theorem tm_binds {K : Frag} {q : Str} {p1 p2 : Pos} {body : List Stmt} {sc : Scope} {doc pm cdv ct : Value} {an : Option Addr} {cc : Addr} : Binds K (ksFn "__init__" q (tmA p1 p2) body sc .none .none doc pm an cdv ct cc) ["self", "what"] [] :=
  fun s us _ hl => match us, hl with | [_, _], _ => .of_eq (by first | rfl | with_unfolding_all rfl)
theorem TmTxt.binds {P : Program} {K : Frag} {C fI : Addr} {fd : FuncData} (T : TmTxt P K C fI fd) : Binds K fd ["self", "what"] [] := by
  obtain ⟨_, _, _, _, _, _, _, _, _, _, _, _, _, _, _, _, _, _, _, _, _, _, _, _, _, rfl, _⟩ := T.fn
  exact tm_binds
structure TmAll (P : Program) (K : Frag) (mg : Str → Option Value) where
  C : Addr
  fI : Addr
  fd : FuncData
  T : TmTxt P K C fI fd
  iC : findIn K (.ref C) "__init__" = some (some (.ref fI))
  tI : typeIn K (.ref fI) = some (.type "function")
  hns : nsIn K mainGlobals "TooMany" = some (some (.ref C))
  m : mg "TooMany" = some (.ref C)
  te : exmOne K (.ref C) (.ref C) = some true
end
end Pf

set_option Elab.async false
set_option linter.all false
set_option maxRecDepth 100000
set_option maxHeartbeats 4000000
namespace Pf
open PySem L2 PySem.Spec PyProof.Rows
section
variable {P : Program} {w : World} {K : PySem.W.Frag} {mg : Str → Option Value} {base : Heap}
structure Scr (K : PySem.W.Frag) (P : Program) (w : World) (z : Shared) (a : Addr) (ns : List Int) (M : Hp) : Prop where
  only : Only M
  script : SqL K M a (ns.map V.int)
  ok : HOk P w M z.heap
  at' : ∀ b, M b ≠ none → b = a
  out : M a ≠ none → K.lookup a = none
end
end Pf

set_option Elab.async false
set_option linter.all false
set_option maxRecDepth 100000
set_option maxHeartbeats 4000000
namespace Pf
open PySem L2
section
variable {X : Cx} {L : Lp} {Γ Γ0 Γ1 Γ2 Γ3 Γ4 Γ' : Ctx} {K : PySem.W.Frag} {F F' H H' : Hp} {B : Bs}
theorem Rel.row {i A ak j : Nat} {σ : St} {env : List D} {dss ds ds' : List D} {vs1 ws ws' : List V} (r : Rel K B Γ σ env F H) (g : Γ[i]? = some (some 2)) (he : env[i]? = some (.list dss)) (s0 : σ[i]? = some (some (.ref A)))
    (hA : H A = some (.lst vs1)) (hds : dss[j]? = some (.list ds)) (hz : vs1[j]? = some (.ref ak)) (hak : H ak = some (.lst ws)) (hnew : RpAll K F ws ds → RpAll K F ws' ds') :
    ws.length = ds.length ∧ Rel K B Γ σ (env.set i (.list (dss.set j (.list ds')))) F (upd H ak (.lst ws')) := by
  obtain ⟨f2, sl, ok⟩ := r
  obtain ⟨v2, d2, f3, f4, k1, k2, k3, k4, k5⟩ := sl.focus g
  rw [he] at k2
  cases k2
  rw [s0] at k1
  cases k1
  obtain ⟨a2, vs2, f6, ea, hl, hF, oa, hf⟩ := own_list k3 rfl
  cases ea
  rw [hA] at hl
  cases hl
  obtain ⟨x1, x2, y1, y2, y3⟩ := oa.at hds hz
  obtain ⟨a3, ws3, f7, ea, hl3, hF3, oa3, hf3⟩ := own_list y1 rfl
  cases ea
  rw [hak] at hl3
  cases hl3
  refine ⟨oa3.length, ?_⟩
  have ha : f3 A = 1 + f6 A := by have := hf A; simpa using this
  have one := ok.one A
  have z4 := k4 A
  have z6 : f6 A = 0 := by omega
  have hx1 : x1 ak = 1 + f7 ak := by have := hf3 ak; simpa using this
  have y2k := y2 ak
  have hfk := hf ak
  have k4k := k4 ak
  have onek := ok.one ak
  have ne : A ≠ ak := fun c => by subst c; omega
  have hfk' : f3 ak = f6 ak := by rw [hfk, if_neg (fun c => ne c.symm), Nat.zero_add]
  have x2z : x2 ak = 0 := by omega
  have f4z : f4 ak = 0 := by omega
  have z7 := own0_zero oa3
  have rp3 : RpAll K F ws ds := own0_rp oa3
  have up : ∀ (b : Addr), b ≠ ak → upd H ak (.lst ws') b = H b := fun b hb => upd_ne hb
  have inner : Own K F (upd H ak (.lst ws')) 1 (.list ds') (.ref ak) x1 :=
    ⟨ak, ws', fun _ => 0, rfl, upd_same, hF3, ownAll_of (fun d v h => ⟨h, fun _ => rfl⟩) (hnew rp3), fun b => by have := hf3 b; have := z7 b; show x1 b = (if b = ak then 1 else 0) + 0; omega⟩
  have all := y3 (Own K F (upd H ak (.lst ws')) 1) (fun d v g hg o => o.mono (Same.refl _) 1 fun b hb => ⟨rfl, up b fun c => by subst c; have := hg b; omega⟩) _ _ inner
  have new : Own K F (upd H ak (.lst ws')) 2 (.list (dss.set j (.list ds'))) (.ref A) f3 :=
    ⟨A, vs1, fun b => x1 b + x2 b, rfl, (up A ne).trans hA, hF, all, fun b => by have := hf b; have := y2 b; show f3 b = _ + (x1 b + x2 b); omega⟩
  have sl' := ((k5 F (upd H ak (.lst ws')) (Same.refl _) (fun b hb => ⟨rfl, up b fun c => by subst c; omega⟩)).2 (.ref A) (.list (dss.set j (.list ds')))).2 2 _ new
  rw [set_self2 s0, set_self2 g] at sl'
  have okw : Ok B F (upd H ak (.lst ws')) f2 := ok.write (by omega) hF3
  exact ⟨_, sl', okw.less fun b => by have := k4 b; show f3 b + f4 b ≤ f2 b; omega⟩
end
section
variable {P : Program} {w : World} {K : PySem.W.Frag} {mg : Str → Option Value} {base : Heap}
structure FnG (P : Program) (w : World) (K : PySem.W.Frag) (mg : Str → Option Value) (base : Heap) (k : Nat) (f : Addr) (fd : FuncData) (ps : List Str) (sp : Sp) : Prop where
  go : ∀ (A : Around) (outer : List Env) (s : Shared) (H : Hp) (args : Args) (us : List Value) (vs : List V) (Q : VK) (E : XK), A.guards = some [] → Room k A → Env0 P w K mg base A outer s H →
    BindsTo s fd args (ps.zip us) → Vals vs us → sp vs H Q E → codeAny (model P w) A (.call (.ref f) args) (CR CX0 outer P w H s Q E) s
end
end Pf

set_option Elab.async false
set_option linter.all false
set_option maxRecDepth 100000
set_option maxHeartbeats 4000000
namespace Pf
open PySem L2
section
variable {X : Cx} {L : Lp} {Γ Γ0 Γ1 Γ2 Γ3 Γ4 Γ' : Ctx} {K : PySem.W.Frag} {F F' H H' : Hp} {B : Bs}
theorem OwnAll.drop {P : D → V → Fp → Prop} : ∀ {ds : List D} {vs : List V} {f : Fp} (b : Nat), OwnAll P ds vs f → ∃ f', (∀ x, f' x ≤ f x) ∧ OwnAll P (ds.drop b) (vs.drop b) f'
  | ds, vs, f, 0, h => ⟨f, fun _ => Nat.le_refl _, h⟩
  | [], [], f, b + 1, h => ⟨f, fun _ => Nat.le_refl _, h⟩
  | d :: ds, v :: vs, f, b + 1, ⟨f1, f2, h1, h2, e⟩ => by
    obtain ⟨f', a1, a2⟩ := OwnAll.drop b h2
    exact ⟨f', fun x => by have := a1 x; have := e x; omega, a2⟩
  | [], _ :: _, _, _ + 1, h => h.elim
  | _ :: _, [], _, _ + 1, h => h.elim
theorem OwnAll.cut {P : D → V → Fp → Prop} : ∀ {ds : List D} {vs : List V} {f : Fp} {a b : Nat}, a ≤ b → OwnAll P ds vs f → ∃ f', (∀ x, f' x ≤ f x) ∧ OwnAll P (ds.take a ++ ds.drop b) (vs.take a ++ vs.drop b) f'
  | ds, vs, f, 0, b, _, h => by
    rw [List.take_zero, List.take_zero, List.nil_append, List.nil_append]
    exact OwnAll.drop b h
  | [], [], f, a + 1, b, _, h => ⟨f, fun _ => Nat.le_refl _, by simpa using h⟩
  | d :: ds, v :: vs, f, a + 1, 0, hab, h => absurd hab (by omega)
  | d :: ds, v :: vs, f, a + 1, b + 1, hab, ⟨f1, f2, h1, h2, e⟩ => by
    obtain ⟨f', a1, a2⟩ := OwnAll.cut (a := a) (b := b) (by omega) h2
    exact ⟨fun x => f1 x + f' x, fun x => by have := a1 x; have := e x; show f1 x + f' x ≤ f x; omega, f1, f', h1, a2, fun _ => rfl⟩
  | [], _ :: _, _, _ + 1, _, _, h => h.elim
  | _ :: _, [], _, _ + 1, _, _, h => h.elim
end
end Pf

set_option Elab.async false
set_option linter.all false
set_option maxRecDepth 100000
set_option maxHeartbeats 4000000
namespace Pf
open PySem L2 PySem.Spec PyProof.Rows
section
variable {X : Cx}
end
section
variable {X : Cx} {L : Lp} {Γ Γ0 Γ1 Γ2 Γ3 Γ4 Γ' : Ctx} {K : PySem.W.Frag} {F F' H H' : Hp} {B : Bs}
end
end Pf

set_option Elab.async false
set_option linter.all false
set_option maxRecDepth 100000
set_option maxHeartbeats 4000000
namespace Pf
open PySem PySem.Spec PyProof.Rows L2
structure FnC (P : Program) (w : World) (K : PySem.W.Frag) (mg : Str → Option Value) (base : Heap) (k : Nat) (f : Addr) (fd : FuncData) (ps : List Str) (sp : Sp) : Prop where
  len : ∀ vs H Q E, sp vs H Q E → vs.length = ps.length
  run : ∀ (A : Around) (outer : List Env) (s : Shared) (H : Hp) (args : Args) (us : List Value) (vs : List V) (Q : VK) (E : XK), L2H.RoomH k A → Env0 P w K mg base A outer s H → BindsTo s fd args (ps.zip us) → Vals vs us → sp vs H Q E →
    codeAny (model P w) A (.call (.ref f) args) (CR CX0 outer P w H s Q E) s
section
variable {X : Cx} {L : Lp} {Γ Γ1 Γ2 Γ' : Ctx}
def Kx (K : PySem.W.Frag) (i : Nat) (a : Addr) (cls : Value) (dd : Option Addr) (σ : L2.St) (env : List D) (F : Hp) : Prop := σ[i]? = some (some (.ref a)) ∧ ∃ x, env[i]? = some x ∧ ExIs K F cls dd x
theorem ExIs.up {K : PySem.W.Frag} {F F' : Hp} {c : Value} {dd : Option Addr} {x : D} (s : Same F F') (h : ExIs K F c dd x) : ExIs K F' c dd x := by
  obtain ⟨nm, C, ks, fs, h1, h2, h3, h4⟩ := h
  refine ⟨nm, C, ks, fs, h1, h2, h3, ?_⟩
  rcases h4 with h4 | ⟨a, xs, h5, h6, h7, h8⟩
  · exact .inl h4
  · exact .inr ⟨a, xs, h5, s _ _ h6, h7, h8.up s⟩
variable {i : Nat} {a : Addr} {cls : Value} {dd : Option Addr}
end
end Pf

set_option Elab.async false
set_option linter.all false
set_option maxRecDepth 100000
set_option maxHeartbeats 4000000
namespace PySem.W
open PySem PySem.Spec PySem.Calls PyProof.Rows
section
variable {prog : Program} {w : World} {A : Around} {E : Value → Shared → Prop} {s : Shared} {K : Frag} {x D : Addr} {ox : Obj}
end
end PySem.W
namespace Pf
open PySem PySem.Spec PyProof.Rows L2
section
variable {X : Cx} {L : Lp} {Γ Γ1 Γ2 Γx Γ' : Ctx}
variable {i : Nat} {a : Addr} {cls : Value} {dd : Option Addr}
end
end Pf

set_option Elab.async false
set_option linter.all false
set_option maxRecDepth 100000
set_option maxHeartbeats 4000000
namespace Pf
open PySem PySem.Spec PyProof.Rows L2
section
variable {X : Cx} {L : Lp} {Γ Γ1 Γ2 Γx Γ' : Ctx}
variable {i : Nat} {a : Addr} {cls : Value} {dd : Option Addr}
def SUe (X : Cx) (L : Lp) (i : Nat) (a : Addr) (cls : Value) (dd : Option Addr) (Γ : Ctx) (sts : List Stmt) (f : SF) (Γ' : Ctx) : Prop :=
  ∃ t : TS, PSs X sts t ∧ ∀ (B : Bs) (σ : L2.St) (env : List D) (F H : Hp) (o : Out) (E : Ends), Rel X.K B Γ σ env F H → Kx X.K i a cls dd σ env F → f env = some o → PostS X.K B L Γ' F σ env E o → t E σ H
theorem SUe.sub {sts : List Stmt} {f : SF} (h : SUe X L i a cls dd Γ sts f Γ1) (l : LeC Γ' Γ1 = true) : SUe X L i a cls dd Γ sts f Γ' := by
  obtain ⟨t, p, q⟩ := h
  exact ⟨t, p, fun B σ env F H o E r kx e k => q B σ env F H o E r kx e (k.down l)⟩
end
end Pf

set_option Elab.async false
set_option linter.all false
set_option maxRecDepth 100000
set_option maxHeartbeats 4000000
namespace L2
open PySem PySem.Spec PyProof.Rows
def wManyAs (K : PySem.W.Frag) (i : Nat) (Wout : WX) (D : Ends) : List (Value × (Addr → Value → Option Addr → TS)) → WX
  | [] => Wout
  | (c, ts) :: r => fun cls d σ H => ∃ b, PySem.W.exmOne K cls c = some b ∧ (b = true → ∀ a, H a = none → ts a cls d { nx := fun σ' H' => D.nx (σ'.set i none) H', rt := D.rt, bk := fun σ' H' => D.bk (σ'.set i none) H', ct := fun σ' H' => D.ct (σ'.set i none) H' } (σ.set i (some (.ref a))) H) ∧ (b = false → wManyAs K i Wout D r cls d σ H)
inductive HdsAs (X : Cx) (n : Str) : List ExceptHandler → List (Value × (Addr → Value → Option Addr → TS)) → Prop
  | nil : HdsAs X n [] []
  | cons {x : Str} {c : Value} {ts : Addr → Value → Option Addr → TS} {b₀ : Stmt} {suite : List Stmt} {np pos' : Pos} {hds : List ExceptHandler} {l : List (Value × (Addr → Value → Option Addr → TS))} (hc : Names X x c)
      (hsu : ∀ (a : Addr) (oe : Obj) (cls : Value) (d : Option Addr) (pn : List (Addr × Obj)), Zc cls d oe → (∃ vs, oe.data = .fields vs) → PSs (X.suite a ((a, oe) :: pn)) (b₀ :: suite) (ts a cls d)) (r : HdsAs X n hds l) :
      HdsAs X n (.ExceptHandler (some (.Name x np)) (some n) (b₀ :: suite) pos' :: hds) ((c, ts) :: l)
section
variable {X : Cx} {n : Str} {i : Nat} {body : List Stmt} {h₀ : ExceptHandler} {hds : List ExceptHandler} {l : List (Value × (Addr → Value → Option Addr → TS))} {pos : Pos} {tb : WX → TS} {Wout : WX}
end
end L2
namespace Pf
open PySem PySem.Spec PyProof.Rows L2
section
variable {X : Cx} {L : Lp} {Γ Γ1 Γ2 Γx Γ' : Ctx} {K : PySem.W.Frag}
variable {i : Nat} {a : Addr} {cls : Value} {dd : Option Addr}
def pCls : List (Str × Bool) → D → Option Bool
  | (s, b) :: r, .tuple [.str nm, k, f] => if nm = s then some b else pCls r (.tuple [.str nm, k, f])
  | _, _ => none
def HpC (K : PySem.W.Frag) (l : List (Str × Bool)) (c : Value) : Prop := ∀ F c' dd y b, ExIs K F c' dd y → pCls l y = some b → PySem.W.exmOne K c' c = some b
def pickX (i : Nat) : List ((D → Option Bool) × SF) → D → SF
  | [], x, _ => some (.rt (mkX x))
  | (p, g) :: r, x, env => (p x).bind fun b => if b = true then (g (env.set i x)).bind fun o => match o with
      | .nx e => some (.nx e)
      | .rt d => some (.rt d)
      | _ => none
    else pickX i r x env
inductive HdOk (X : Cx) (L : Lp) (i : Nat) (n : Str) (Γx Γ' : Ctx) : List ExceptHandler → List ((D → Option Bool) × SF) → Prop
  | nil : HdOk X L i n Γx Γ' [] []
  | cons {x : Str} {c : Value} {g : SF} {l0 : List (Str × Bool)} {b₀ : Stmt} {suite : List Stmt} {np pos' : Pos} {hds : List ExceptHandler} {l : List ((D → Option Bool) × SF)} (hc : Names X x c) (hp : HpC X.K l0 c)
      (hsu : ∀ (a : Addr) (oe : Obj) (cls : Value) (d : Option Addr) (pn : List (Addr × Obj)), Zc cls d oe → (∃ vs, oe.data = .fields vs) → SUe (X.suite a ((a, oe) :: pn)) L i a cls d Γx (b₀ :: suite) g Γ') (r : HdOk X L i n Γx Γ' hds l) :
      HdOk X L i n Γx Γ' (.ExceptHandler (some (.Name x np)) (some n) (b₀ :: suite) pos' :: hds) ((pCls l0, g) :: l)
theorem HdOk.to {n : Str} {hds : List ExceptHandler} {l : List ((D → Option Bool) × SF)} (h : HdOk X L i n Γx Γ' hds l) (hΓ : Γx[i]? = some none) (hΓ' : Γ'[i]? = some none) (hpin : i ∉ L.pin) :
    ∃ l2, HdsAs X n hds l2 ∧ ∀ (B : Bs) (σ : L2.St) (env : List D) (F H : Hp) (E : Ends) (o : Out) (y : D) (c1 : Value) (dd : Option Addr), Rel X.K B Γx σ env F H → ExIs X.K F c1 dd y → pickX i l y env = some o → PostS X.K B L Γ' F σ env E o → wManyAs X.K i L.wx E l2 c1 dd σ H := by
  induction h with
  | nil =>
    refine ⟨[], .nil, fun B σ env F H E o y c1 dd r hx e k => ?_⟩
    cases e
    exact k.2 y rfl c1 dd σ F H (Same.refl _) r.ok0 hx
  | @cons x c g l0 b₀ suite np pos' hds l hc hp hsu _ ih =>
    obtain ⟨l2, h2, h3⟩ := ih
    refine ⟨(c, fun a cls d E σ H => ∃ (B : Bs) (env : List D) (F : Hp) (o : Out), Rel X.K B Γx σ env F H ∧ Kx X.K i a cls d σ env F ∧ g env = some o ∧ PostS X.K B L Γ' F σ env E o) :: l2, .cons hc (fun a oe cls d pn hz hfl => ?_) h2, fun B σ env F1 H1 E o y c1 dd r1 hx e k => ?_⟩
    · obtain ⟨t, pt, q⟩ := hsu a oe cls d pn hz hfl
      exact ⟨fun pins s σ H D I ⟨B, env, F, o, r, kx, e, k⟩ => pt.run pins s σ H D I (q B σ env F H o D r kx e k)⟩
    · obtain ⟨b, hpb, e⟩ := Option.bind_eq_some_iff.mp e
      refine ⟨b, hp F1 c1 dd y b hx hpb, fun hpy a na => ?_, fun hpy => ?_⟩
      · rw [if_pos hpy] at e
        obtain ⟨o2, h2', e⟩ := Option.bind_eq_some_iff.mp e
        obtain ⟨f1, sl, ok⟩ := r1
        have ln := sl.len
        have hi1 : i < Γx.length := (List.getElem?_eq_some_iff.mp hΓ).1
        have sl2 : Slots X.K F1 H1 Γx (σ.set i (some (.ref a))) (env.set i y) f1 := sl.agree (List.length_set) (List.length_set) fun j => by
          by_cases c : j = i
          · exact .inl (by rw [c]; exact hΓ)
          · exact .inr ⟨set_other c, set_other c⟩
        refine ⟨B, env.set i y, F1, o2, ⟨f1, sl2, ok⟩, ⟨by rw [List.getElem?_set_self (by omega)], y, by rw [List.getElem?_set_self (by omega)], hx⟩, h2', ?_⟩
        cases o2 with
        | nx e2 =>
          cases e
          intro σ6 F6 H6 s6 r6 kp6
          obtain ⟨f6, sl6, ok6⟩ := r6
          refine k (σ6.set i none) F6 H6 s6 ⟨f6, sl6.wipe1 hΓ', ok6⟩ fun j hj => ?_
          have hji : j ≠ i := fun e => hpin (e ▸ hj)
          obtain ⟨q1, q2⟩ := kp6 j hj
          rw [set_other hji] at q1 q2
          exact ⟨by rw [set_other hji]; exact q1, q2⟩
        | rt d => cases e; exact k
        | bk e2 => cases e
        | ct e2 => cases e
      · rw [if_neg (by rw [hpy]; decide)] at e
        exact h3 B σ env F1 H1 E o y c1 dd r1 hx e k
structure OwnX (K : PySem.W.Frag) (mg : Str → Option Value) (nm : Str) where
  C : Addr
  q : PySem.W.excIn K C [.type "ValueError", .type "Exception", .type "BaseException", .type "object"] "ValueError.__new__" = true
  kp : PySem.W.keepIn K (.ref C) = true
  r1 : PySem.W.subIn K (.ref C) (.type "BaseException") = some true
  r2 : PySem.W.typeIn K (.ref C) = some (.type "type")
  ns : PySem.W.nsIn K mainGlobals nm = some (some (.ref C))
  m : mg nm = some (.ref C)
end
end Pf

set_option Elab.async false
set_option linter.all false
set_option maxRecDepth 100000
set_option maxHeartbeats 4000000
namespace Pf
open PySem L2
structure Tk where
  C : Addr
  x : Addr
  dx : Addr
  l : Addr
  vb : V
  vh : V
  dB : D
  dH : D
structure Ts where
  n : Int
  ws : List D
def vOf : D → V
  | .bool b => .bl b
  | .int i => .int i
  | _ => .non
def plainD : D → Bool
  | .bool _ => true
  | .int _ => true
  | _ => false
def tf (vb vh : V) (n : Int) (l : Addr) : List (Str × V) := [("before", vb), ("holds", vh), ("facts_passed", .int n), ("after", .ref l)]
structure StT (K : PySem.W.Frag) (tk : Tk) (B : Bs) (τ : Ts) : Prop where
  ob : B.H0 tk.x = some (.ins tk.C tk.dx (tf tk.vb tk.vh τ.n tk.l))
  ls : B.H0 tk.l = some (.lst (τ.ws.map vOf))
  fx : B.F0 tk.x = none
  fl : B.F0 tk.l = none
  sm : τ.ws.all plainD = true
  hb : Rp K B.F0 tk.vb tk.dB
  hh : Rp K B.F0 tk.vh tk.dH
def Frm (tk : Tk) (B B' : Bs) : Prop := B'.F0 = B.F0 ∧ ∀ a, a ≠ tk.x → a ≠ tk.l → B'.H0 a = B.H0 a
theorem Frm.refl {tk : Tk} {B : Bs} : Frm tk B B := ⟨rfl, fun _ _ _ => rfl⟩
theorem Frm.trans {tk : Tk} {B B1 B2 : Bs} (h : Frm tk B B1) (k : Frm tk B1 B2) : Frm tk B B2 := ⟨k.1.trans h.1, fun a h1 h2 => (k.2 a h1 h2).trans (h.2 a h1 h2)⟩
section
variable {K : PySem.W.Frag} {tk : Tk} {B : Bs} {τ : Ts} {Γ : Ctx} {σ : St} {env : List D} {F H H1 : Hp}
theorem StT.hx (s : StT K tk B τ) {f : Fp} (k : Ok B F H f) : H tk.x = some (.ins tk.C tk.dx (tf tk.vb tk.vh τ.n tk.l)) := k.h0 _ _ s.ob
theorem StT.hl (s : StT K tk B τ) {f : Fp} (k : Ok B F H f) : H tk.l = some (.lst (τ.ws.map vOf)) := k.h0 _ _ s.ls
end
abbrev EM := Ts → List D → Option (Ts × D)
abbrev SFm := Ts → List D → Option (Ts × Out)
def SBm (X : Cx) (tk : Tk) (Γ : Ctx) (e : Expr) (f : EM) (n : Nat) (Γ' : Ctx) : Prop :=
  ∃ t : TE, PE X e t ∧ ∀ (B : Bs) (σ : St) (env : List D) (F H : Hp) (τ τ' : Ts) (d : D) (Q : VK), Rel X.K B Γ σ env F H → StT X.K tk B τ → σ[0]? = some (some (.ref tk.x)) → f τ env = some (τ', d) →
    (∀ B' v F' H', Frm tk B B' → StT X.K tk B' τ' → Same F F' → Rel X.K B' Γ' σ env F' H' → Bw X.K F' H' n d v → Q v H') → t σ H Q
def PostM (K : PySem.W.Frag) (tk : Tk) (B : Bs) (L : Lp) (Γ' : Ctx) (F : Hp) (σ0 : St) (env0 : List D) (E : Ends) : Ts × Out → Prop
  | (τ, .nx env) => ∀ B' σ F' H', Frm tk B B' → StT K tk B' τ → Same F F' → Rel K B' Γ' σ env F' H' → Kp L σ0 env0 σ env → E.nx σ H'
  | (τ, .rt d) => ∀ B' v F' H', Frm tk B B' → StT K tk B' τ → Same F F' → (∃ g, Own K F' H' 0 d v g ∧ Ok B' F' H' g) → E.rt v H'
  | _ => False
def SSm (X : Cx) (tk : Tk) (L : Lp) (Γ : Ctx) (sts : List Stmt) (f : SFm) (Γ' : Ctx) : Prop :=
  ∃ t : TS, PSs X sts t ∧ ∀ (B : Bs) (σ : St) (env : List D) (F H : Hp) (τ : Ts) (r : Ts × Out) (E : Ends), Rel X.K B Γ σ env F H → StT X.K tk B τ → σ[0]? = some (some (.ref tk.x)) → f τ env = some r → PostM X.K tk B L Γ' F σ env E r → t E σ H
section
variable {X : Cx} {L : Lp} {tk : Tk} {Γ Γ1 Γ2 Γ' : Ctx} {K : PySem.W.Frag} {B B' : Bs} {F F' H H' : Hp} {σ : St} {env : List D} {τ τ' : Ts}
theorem PostM.up {r : Ts × Out} {σ0 : St} {env0 : List D} {E : Ends} (fr : Frm tk B B') (e : Same F F') (h : PostM K tk B L Γ' F σ0 env0 E r) : PostM K tk B' L Γ' F' σ0 env0 E r := by
  obtain ⟨t, o⟩ := r
  cases o with
  | nx env => exact fun B2 σ2 F2 H2 f2 s2 u2 r2 kp => h B2 σ2 F2 H2 (fr.trans f2) s2 (e.trans u2) r2 kp
  | rt d => exact fun B2 v F2 H2 f2 s2 u2 r2 => h B2 v F2 H2 (fr.trans f2) s2 (e.trans u2) r2
  | bk _ => exact h
  | ct _ => exact h
theorem PostM.on {r : Ts × Out} {σ0 σ1 : St} {env0 env1 : List D} {E : Ends} (k : Kp L σ0 env0 σ1 env1) (h : PostM K tk B L Γ' F σ0 env0 E r) : PostM K tk B L Γ' F σ1 env1 E r := by
  obtain ⟨t, o⟩ := r
  cases o with
  | nx env => exact fun B2 σ2 F2 H2 f2 s2 u2 r2 kp => h B2 σ2 F2 H2 f2 s2 u2 r2 (k.trans kp)
  | rt d => exact h
  | bk _ => exact h
  | ct _ => exact h
theorem PostM.down {r : Ts × Out} {σ0 : St} {env0 : List D} {E : Ends} (l : LeC Γ' Γ1 = true) (h : PostM K tk B L Γ' F σ0 env0 E r) : PostM K tk B L Γ1 F σ0 env0 E r := by
  obtain ⟨t, o⟩ := r
  cases o with
  | nx env =>
    intro B2 σ2 F2 H2 f2 s2 u2 r2 kp
    obtain ⟨F3, u, r3⟩ := r2.down l
    exact h B2 σ2 F3 H2 f2 s2 (u2.trans u) r3 kp
  | rt d => exact h
  | bk _ => exact h
  | ct _ => exact h
theorem SBm.sub {e : Expr} {f : EM} {n : Nat} (h : SBm X tk Γ e f n Γ1) (l : LeC Γ' Γ1 = true) (hn : n = 0) : SBm X tk Γ e f 0 Γ' := by
  subst hn
  obtain ⟨t, p, q⟩ := h
  refine ⟨t, p, fun B σ env F H τ τ' d Q r st h0 e k => q B σ env F H τ τ' d Q r st h0 e fun B' v F' H' f1 s1 u1 r1 b1 => ?_⟩
  obtain ⟨F2, u, r2⟩ := r1.down l
  exact k B' v F2 H' f1 s1 (u1.trans u) r2 (Rp.up u b1)
theorem SSm.sub {sts : List Stmt} {f : SFm} (h : SSm X tk L Γ sts f Γ1) (l : LeC Γ' Γ1 = true) : SSm X tk L Γ sts f Γ' := by
  obtain ⟨t, p, q⟩ := h
  exact ⟨t, p, fun B σ env F H τ r E rr st h0 e k => q B σ env F H τ r E rr st h0 e (k.down l)⟩
structure TkC (K : PySem.W.Frag) (C : Addr) : Prop where
  cl : Cls K C
  n1 : NoAttr K C "before"
  n2 : NoAttr K C "holds"
  n3 : NoAttr K C "facts_passed"
  n4 : NoAttr K C "after"
def mFld (g : Ts → D) : EM := fun τ _ => some (τ, g τ)
theorem tf_2 {vb vh : V} {n : Int} {l : Addr} : (tf vb vh n l).lookup ("holds" : Str) = some vh := rfl
section
variable {xp pos : Pos} (T : TkC X.K tk.C) (hx : PE X (.Name "self" xp) (tVar 0))
include T hx
theorem sbm_holds (hb : attributeBase (.Name "self" xp) "holds" X.env (eval (.Name "self" xp) X.env) = eval (.Name "self" xp) X.env := by rfl) : SBm X tk Γ (.Attribute (.Name "self" xp) "holds" pos) (mFld fun _ => tk.dH) 0 Γ := by
  refine ⟨_, pe_fld hx hb, fun B σ env F H τ τ' d Q r st h0 e k => ?_⟩
  cases e
  obtain ⟨f, sl, ok⟩ := id r
  exact ⟨_, h0, tk.x, tk.C, tk.dx, _, tk.vh, rfl, st.hx ok, T.cl, T.n2, tf_2, k B tk.vh F H .refl st (Same.refl _) r (Rp.up ok.f0 st.hh)⟩
end
def m2 (g : D → D → Option D) (fa fb : EM) : EM := fun τ env => (fa τ env).bind fun p => (fb p.1 env).bind fun q => (g p.2 q.2).map fun d => (q.1, d)
end
end Pf

set_option Elab.async false
set_option linter.all false
set_option maxRecDepth 100000
set_option maxHeartbeats 4000000
namespace Pf
open PySem L2
section
variable {X : Cx} {L : Lp} {tk : Tk} {Γ Γ1 Γ2 Γ' : Ctx} {K : PySem.W.Frag} {B B' : Bs} {F F' H H' : Hp} {σ : St} {env : List D} {τ τ' : Ts}
theorem bwl_rp0 : ∀ {ns : List Nat} {ds : List D} {vs : List V}, BwL K F H ns ds vs → vs.length = ns.length
  | [], [], [], _ => rfl
  | _ :: ns, _ :: ds, _ :: vs, h => by simp [bwl_rp0 h.2]
  | [], [], _ :: _, h | [], _ :: _, _, h | _ :: _, [], _, h | _ :: _, _ :: _, [], h => by simp [BwL] at h
theorem Got.less {F1 Hb F' H' H1 : Hp} {n : Nat} {d : D} {v : V} (g : Got K F1 Hb F' H' n d v) (hs : Same H1 Hb) : Got K F1 H1 F' H' n d v := by
  obtain ⟨f, o, k⟩ := g
  refine ⟨f, o, ⟨k.fh, hs.trans k.h0, k.f0, fun a u e => ?_, k.one, fun a ha => hs.dom a (k.fr a ha)⟩⟩
  rcases k.fn a u e with z | z | ⟨z, xs, rfl⟩ | ⟨ps, z⟩
  · exact .inl z
  · exact .inr (.inl (hs.dom a z))
  · cases c : H1 a with
    | none => exact .inr (.inl c)
    | some u2 =>
      by_cases n : NT u2
      · have := hs.st a u2 c n
        rw [show Hb a = _ from z] at this
        cases this
        exact .inr (.inr (.inl ⟨c, xs, rfl⟩))
      · exact .inr (.inr (.inr (by rw [show (Bs.mk H1 F1).H0 a = some u2 from c]; exact nt_not n)))
  · cases c : H1 a with
    | none => exact .inr (.inl c)
    | some u2 =>
      by_cases n : NT u2
      · have := hs.st a u2 c n
        rw [show Hb a = _ from z] at this
        exact absurd (Option.some.inj this.symm) (n ps)
      · exact .inr (.inr (.inr (by rw [show (Bs.mk H1 F1).H0 a = some u2 from c]; exact nt_not n)))
end
end Pf

set_option Elab.async false
set_option linter.all false
set_option maxRecDepth 100000
set_option maxHeartbeats 4000000
namespace Pf
open PySem L2
structure GlT (K : PySem.W.Frag) (mg : Str → Option Value) (x : Str) (ds : List D) : Prop where
  ex : ∃ (g : Addr) (xs : List V), mg x = some (.ref g) ∧ (∀ H, SqT K H g xs) ∧ xs.all flatV = true ∧ (∀ F, RpAll K F xs ds)
  fl : ds.all flatD = true
def eInG (neg : Bool) (ds : List D) (fa : EF) : EF := fun env => (fa env).bind fun d => if flatD d = true then some (.bool (if neg then !(ds.any fun z => PyData.eqv z d) else ds.any fun z => PyData.eqv z d)) else none
theorem vals_strs {K : PySem.W.Frag} {F : Hp} : ∀ ss : List Str, RpAll K F (ss.map V.str) (ss.map .str) ∧ (ss.map V.str).all flatV = true ∧ (ss.map PyData.str).all flatD = true
  | [] => ⟨.nil, rfl, rfl⟩
  | s :: ss => ⟨.cons (.str s) (vals_strs ss).1, by rw [List.map_cons, List.all_cons, (vals_strs (K := K) (F := F) ss).2.1]; rfl, by rw [List.map_cons, List.all_cons, (vals_strs (K := K) (F := F) ss).2.2]; rfl⟩
theorem glT_mk {K : PySem.W.Frag} {mg : Str → Option Value} {x : Str} {ss : List Str} {g : Addr} {od : Option Addr} {its : Array Value} {n : Nat} {sl : Array (Option Value)} (hm : mg x = some (.ref g)) (l : K.lookup g = some ⟨.type "tuple", od, .seq its n, sl⟩) (hz : its.size ≤ 1000) (hv : Vals (ss.map V.str) its.toList) : GlT K mg x (ss.map .str) :=
  ⟨⟨g, ss.map V.str, hm, fun H => .inr ⟨_, its, n, l, rfl, rfl, by rw [sizeLine_eq]; omega, hv⟩, (vals_strs (K := K) (F := fun _ => none) ss).2.1, fun F => (vals_strs ss).1⟩, (vals_strs (K := K) (F := fun _ => none) ss).2.2⟩
section
variable {X : Cx} {Γ Γ1 : Ctx}
theorem se_notInG {a : Expr} {x : Str} {ds : List D} {pos p : Pos} {fa : EF} {na : Nat} (T : GlT X.K X.mg x ds) (hg : Gl X x) (ha : SB X Γ a fa na Γ1) (hdb : (x == ("__debug__" : Str)) = false := by decide) (hm : behindInMarks .NotIn (.Name x p) = false := by rfl) :
    SE X Γ (.Compare a [.NotIn] [.Name x p] pos) (eInG true ds fa) 0 Γ1 := by
  obtain ⟨ta, pa, qa⟩ := ha
  obtain ⟨g, xs, hmg, hs, hf, hr⟩ := T.ex
  refine ⟨_, pe_cmpR op_notIn_seq pa (pe_glob (v := .ref g) hg hmg rfl hdb) hm, fun B σ env F H d Q rr e k => ?_⟩
  obtain ⟨d', hd, e⟩ := Option.bind_eq_some_iff.mp e
  refine qa B σ env F H d' _ rr hd fun v F1 H1 s1 t1 r1 b1 => ?_
  split at e
  · rename_i hfl
    cases e
    have rp := b1.rp r1.fh na
    refine ⟨g, xs, rfl, .inr (hs H1), rp.flat hfl, hf, ?_⟩
    rw [inV_any rp hfl (hr H1) T.fl]
    exact k _ F1 H1 s1 t1 (r1.t0 (.bl _))
  · cases e
end
end Pf
namespace Pf
open PySem L2
end Pf

set_option Elab.async false
set_option linter.all false
set_option maxRecDepth 100000
set_option maxHeartbeats 4000000
namespace Pf
open PySem L2 PySem.Spec PyProof.Rows
section
variable {X : Cx} {L : Lp} {Γ Γ0 Γ1 Γ2 Γ3 Γ4 Γ' : Ctx} {K : PySem.W.Frag} {F F' H H' : Hp} {B : Bs}
end
section
variable {X : Cx}
end
section
variable {X : Cx} {L : Lp} {Γ Γ0 Γ1 Γ2 Γ3 Γ4 Γ' : Ctx} {K : PySem.W.Frag} {F F' H H' : Hp} {B : Bs}
end
section
variable {X : Cx} {pins : List (Addr × Obj)} {σ : L2.St} {H : Hp} {s : Shared} {a : Addr} {y : V} {u : Value} {o : Option V} {A : Around} {E : Value → Shared → Prop}
end
section
variable {X : Cx} {L : Lp} {Γ Γ0 Γ1 Γ2 Γ3 Γ4 Γ' : Ctx} {K : PySem.W.Frag} {F F' H H' : Hp} {B : Bs}
end
end Pf

set_option Elab.async false
set_option linter.all false
set_option maxRecDepth 100000
set_option maxHeartbeats 4000000
namespace Pf
open PySem L2
section
variable {X : Cx} {L : Lp} {Γ Γ1 Γ2 Γ' : Ctx} {K : PySem.W.Frag} {F F' H H' : Hp} {B : Bs}
instance : ∀ i j, Decidable (CShl i j) := fun i j => by unfold CShl; infer_instance
end
end Pf

set_option Elab.async false
set_option linter.all false
set_option maxRecDepth 100000
set_option maxHeartbeats 4000000
namespace Pf
open PySem L2
section
variable {X : Cx} {L : Lp} {Γ Γ1 Γ2 Γ' : Ctx} {K : PySem.W.Frag} {F F' H H' : Hp} {B : Bs}
end
end Pf

set_option Elab.async false
set_option linter.all false
set_option maxRecDepth 100000
set_option maxHeartbeats 4000000
namespace Pf
open PySem L2
section
variable {P : Program} {w : World} {A : Around} {E : Value → Shared → Prop} {s : Shared}
end
end Pf

set_option Elab.async false
set_option linter.all false
set_option maxRecDepth 100000
set_option maxHeartbeats 4000000
namespace Pf
open PySem L2 PyProof.Rows
section
variable {P : Program} {w : World} {A : Around} {E : Value → Shared → Prop} {s : Shared}
end
section
variable {X : Cx}
end
section
variable {X : Cx} {K : PySem.W.Frag} {Γ Γ1 : Ctx}
end
end Pf

set_option Elab.async false
set_option linter.all false
set_option maxRecDepth 100000
set_option maxHeartbeats 4000000
namespace Pf
open PySem L2
section
variable {X : Cx}
variable {Γ Γ1 Γ2 : Ctx}
end
end Pf

set_option Elab.async false
set_option linter.all false
set_option maxRecDepth 100000
set_option maxHeartbeats 4000000
namespace Pf
open PySem L2
section
variable {X : Cx} {L : Lp} {Γ Γ0 Γ1 Γ2 Γ3 Γ4 Γ' : Ctx} {K : PySem.W.Frag} {F F' H H' : Hp} {B : Bs}
theorem Slots.blank {F H : Hp} : ∀ {Γ : Ctx} {σ : St} {env : List D} {f : Fp} {i : Nat} {x : Option V} {d : D}, Slots K F H Γ σ env f → Γ[i]? = some none → Slots K F H Γ (σ.set i x) (env.set i d) f
  | [], [], [], _, _, _, _, _, h => by simp at h
  | none :: Γ, s :: σ, e :: env, f, 0, x, d, h, _ => h
  | none :: Γ, s :: σ, e :: env, f, i + 1, x, d, h, hi => Slots.blank (Γ := Γ) (i := i) h (by simpa using hi)
  | some m :: Γ, s :: σ, e :: env, f, 0, x, d, h, hi => by simp at hi
  | some m :: Γ, s :: σ, e :: env, f, i + 1, x, d, ⟨v, f1, f2, a, b, c, q⟩, hi => ⟨v, f1, f2, a, b, Slots.blank (i := i) c (by simpa using hi), q⟩
  | [], _ :: _, _, _, _, _, _, h, _ | [], [], _ :: _, _, _, _, _, h, _ | _ :: _, [], _, _, _, _, _, h, _ | _ :: _, _ :: _, [], _, _, _, _, h, _ => by simp [Slots] at h
theorem Rel.blank {σ : St} {env : List D} {i : Nat} {x : Option V} {d : D} (r : Rel K B Γ σ env F H) (h : Γ[i]? = some none) : Rel K B Γ (σ.set i x) (env.set i d) F H := by
  obtain ⟨f, s, k⟩ := r
  exact ⟨f, s.blank h, k⟩
end
end Pf

set_option Elab.async false
set_option linter.all false
set_option maxRecDepth 100000
set_option maxHeartbeats 4000000
namespace Pf
open PySem L2
def cutF (F : Hp) (a0 : Addr) : Hp := fun a => if a = a0 then none else F a
def ndN : Nat → D → Bool
  | 0, d => nd d
  | n + 1, .list ds => ds.all (ndN n)
  | n + 1, .dict kvs => (kvs.map (·.2)).all (ndN n)
  | _, _ => false
def ndS : Ctx → List D → Bool
  | [], [] => true
  | none :: Γ, _ :: env => ndS Γ env
  | some n :: Γ, d :: env => ndN n d && ndS Γ env
  | _, _ => false
section
variable {X : Cx} {L : Lp} {Γ Γ0 Γ1 Γ2 Γ3 Γ4 Γ' : Ctx} {K : PySem.W.Frag} {F F' H H' : Hp} {B : Bs} {a0 : Addr} {l0 : List (Key × V)} {z0 : HO}
theorem rd_cut (h0 : F a0 = some (.dK l0)) {a : Addr} {u : HO} (hu : ∀ l, u ≠ .dK l) (h : Rd F a u) : Rd (cutF F a0) a u := by
  have ne : a ≠ a0 := by
    rintro rfl
    rcases h with h | ⟨o, h⟩ <;> rw [h0] at h <;> cases h
    exact hu _ rfl
  rcases h with h | ⟨o, h⟩
  · exact .inl (by unfold cutF; rw [if_neg ne]; exact h)
  · exact .inr ⟨o, by unfold cutF; rw [if_neg ne]; exact h⟩
theorem sqL_cut (h0 : F a0 = some (.dK l0)) {a : Addr} {xs : List V} (h : SqL K F a xs) : SqL K (cutF F a0) a xs := h.imp (rd_cut h0 fun _ e => by cases e) id
mutual
theorem Rp.cut (h0 : F a0 = some (.dK l0)) : ∀ {v : V} {d : D}, Rp K F v d → nd d = true → Rp K (cutF F a0) v d
  | _, _, .non, _ => .non
  | _, _, .bl b, _ => .bl b
  | _, _, .int i, _ => .int i
  | _, _, .str x, _ => .str x
  | _, _, .lst h r, q => .lst (sqL_cut h0 h) (RpAll.cut h0 r (by simpa [nd] using q))
  | _, _, .tup (a := a) h r, q => .tup (by unfold cutF; rw [if_neg (fun c => by rw [c, h0] at h; cases h)]; exact h) (RpAll.cut h0 r (by simpa [nd] using q))
  | _, _, .dic h _ r, q => by simp [nd] at q
theorem RpAll.cut (h0 : F a0 = some (.dK l0)) : ∀ {vs : List V} {ds : List D}, RpAll K F vs ds → ndAll ds = true → RpAll K (cutF F a0) vs ds
  | _, _, .nil, _ => .nil
  | _, _, .cons a b, q => by
    simp only [ndAll, Bool.and_eq_true] at q
    exact .cons (Rp.cut h0 a q.1) (RpAll.cut h0 b q.2)
end
theorem ownAll_cut {P Q : D → V → Fp → Prop} {p : D → Bool} (h : ∀ d v f, p d = true → f a0 = 0 → P d v f → Q d v f) : ∀ {ds : List D} {vs : List V} {f : Fp}, ds.all p = true → f a0 = 0 → OwnAll P ds vs f → OwnAll Q ds vs f
  | [], [], _, _, _, o => o
  | d :: ds, v :: vs, f, q, z, ⟨f1, f2, a, b, e⟩ => by
    simp only [List.all_cons, Bool.and_eq_true] at q
    have := e a0
    exact ⟨f1, f2, h _ _ _ q.1 (by omega) a, ownAll_cut h q.2 (by omega) b, e⟩
  | [], _ :: _, _, _, _, o => o.elim
  | _ :: _, [], _, _, _, o => o.elim
theorem Own.cut (h0 : F a0 = some (.dK l0)) : ∀ (n : Nat) {d : D} {v : V} {f : Fp}, ndN n d = true → f a0 = 0 → Own K F H n d v f → Own K (cutF F a0) (upd H a0 z0) n d v f
  | 0, _, _, _, q, _, ⟨r, e⟩ => ⟨r.cut h0 q, e⟩
  | n + 1, .list ds, v, f, q, z, ⟨b, vs, f2, ev, hb, hn, o, hf⟩ => by
    have ne : b ≠ a0 := by rintro rfl; have := hf b; simp at this; omega
    have := hf a0
    exact ⟨b, vs, f2, ev, by rw [upd_ne ne]; exact hb, by unfold cutF; rw [if_neg ne]; exact hn, ownAll_cut (p := ndN n) (fun d v f q z o => Own.cut h0 n q z o) (by simpa [ndN] using q) (by omega) o, hf⟩
  | n + 1, .dict kvs, v, f, q, z, ⟨b, oo, vs, f2, ev, hb, hn, hk, o, hf⟩ => by
    have ne : b ≠ a0 := by rintro rfl; have := hf b; simp at this; omega
    have := hf a0
    exact ⟨b, oo, vs, f2, ev, by rw [upd_ne ne]; exact hb, by unfold cutF; rw [if_neg ne]; exact hn, hk, ownAll_cut (p := ndN n) (fun d v f q z o => Own.cut h0 n q z o) (by simpa only [ndN] using q) (by omega) o, hf⟩
  | _ + 1, .none, _, _, q, _, _ | _ + 1, .bool _, _, _, q, _, _ | _ + 1, .int _, _, _, q, _, _ | _ + 1, .str _, _, _, q, _, _ | _ + 1, .tuple _, _, _, q, _, _ => by simp [ndN] at q
theorem Slots.cut (h0 : F a0 = some (.dK l0)) : ∀ {Γ : Ctx} {σ : St} {env : List D} {f : Fp}, ndS Γ env = true → f a0 = 0 → Slots K F H Γ σ env f → Slots K (cutF F a0) (upd H a0 z0) Γ σ env f
  | [], [], [], _, _, _, h => h
  | none :: Γ, _ :: σ, _ :: env, f, q, z, h => Slots.cut (Γ := Γ) h0 (by simpa [ndS] using q) z h
  | some n :: Γ, s :: σ, d :: env, f, q, z, ⟨v, f1, f2, es, o, r, hf⟩ => by
    simp only [ndS, Bool.and_eq_true] at q
    have := hf a0
    exact ⟨v, f1, f2, es, Own.cut h0 n q.1 (by omega) o, Slots.cut h0 q.2 (by omega) r, hf⟩
  | [], _ :: _, _, _, _, _, h | [], [], _ :: _, _, _, _, h | _ :: _, [], _, _, _, _, h | _ :: _, _ :: _, [], _, _, _, h => by simp [Slots] at h
end
section
variable {X : Cx}
end
section
variable {X : Cx} {L : Lp} {Γ Γ0 Γ1 Γ2 Γ3 Γ4 Γ' : Ctx} {K : PySem.W.Frag} {F F' H H' : Hp} {B : Bs}
end
section
variable {X : Cx} {L : Lp} {Γ Γ0 Γ1 Γ2 Γ3 Γ4 Γ' : Ctx} {K : PySem.W.Frag} {F F' H H' : Hp} {B : Bs}
theorem slot_dwrite {σ : St} {env : List D} {i : Nat} {kvs : List (D × D)} (hi : Γ[i]? = some (some 1)) (r : Rel K B Γ σ env F H) (hx : env[i]? = some (.dict kvs)) :
    ∃ a oo vs, σ[i]? = some (some (.ref a)) ∧ H a = some oo ∧ DicO a oo kvs vs ∧ RpAll K F vs (kvs.map (·.2)) ∧ ∀ o' kvs' vs', DicO a o' kvs' vs' → RpAll K F vs' (kvs'.map (·.2)) → Rel K B Γ σ (env.set i (.dict kvs')) F (upd H a o') := by
  obtain ⟨f2, sl, ok⟩ := r
  obtain ⟨v1, d1, f3, f4, h1, h2, h3, h4, h5⟩ := sl.focus hi
  rw [hx] at h2
  cases h2
  obtain ⟨a, oo, vs, f6, rfl, hl, hF, hD, oa, hf⟩ := (show ∃ a o vs f2, v1 = .ref a ∧ H a = some o ∧ F a = none ∧ DicO a o kvs vs ∧ OwnAll (Own K F H 0) (kvs.map (·.2)) vs f2 ∧ ∀ b, f3 b = (if b = a then 1 else 0) + f2 b from h3)
  refine ⟨a, oo, vs, h1, hl, hD, OwnAll.frz (fun d v f h => h.1) oa, fun o' kvs' vs' g2 g3 => ?_⟩
  have z6 := own0_zero oa
  have ha : f3 a = 1 + f6 a := by have := hf a; simpa using this
  have one := ok.one a
  have z4 := h4 a
  have z4' : f4 a = 0 := by omega
  have new : Own K F (upd H a o') 1 (.dict kvs') (.ref a) f3 := ⟨a, o', vs', fun _ => 0, rfl, upd_same, hF, g2, ownAll_of (fun d v h => ⟨h, fun _ => rfl⟩) g3, fun b => by have := hf b; have := z6 b; show f3 b = (if b = a then 1 else 0) + 0; omega⟩
  have sl' := ((h5 F (upd H a o') (Same.refl _) (fun b hb => ⟨rfl, upd_ne fun c => by subst c; omega⟩)).2 (.ref a) (.dict kvs')).2 1 _ new
  have eσ : σ.set i (some (.ref a)) = σ := set_self' h1
  have eΓ : Γ.set i (some 1) = Γ := set_self' hi
  rw [eσ, eΓ] at sl'
  have okw : Ok B F (upd H a o') f2 := ok.write (by omega) hF
  exact ⟨_, sl', okw.less fun b => by have := h4 b; show f3 b + f4 b ≤ f2 b; omega⟩
end
section
variable {X : Cx} {pins : List (Addr × Obj)} {σ : St} {H : Hp} {s : Shared} {a : Addr} {y z : V} {u r : Value} {A : Around} {E : Value → Shared → Prop}
end
section
variable {X : Cx} {L : Lp} {Γ Γ0 Γ1 Γ2 Γ3 Γ4 Γ' : Ctx} {K : PySem.W.Frag} {F F' H H' : Hp} {B : Bs}
end
section
variable {X : Cx} {L : Lp} {Γ Γ0 Γ1 Γ2 Γ3 Γ4 Γ' : Ctx} {K : PySem.W.Frag} {F F' H H' : Hp} {B : Bs}
end
end Pf

set_option Elab.async false
set_option linter.all false
set_option maxRecDepth 100000
set_option maxHeartbeats 4000000
namespace Pf
open PySem L2
section
variable {X : Cx} {Γ Γ1 Γ2 : Ctx}
end
end Pf

set_option Elab.async false
set_option linter.all false
set_option maxRecDepth 100000
set_option maxHeartbeats 4000000
namespace Pf
open PySem L2 L2H HotX
section
variable {prog : Program} {w : World} {A : Around} {E : Value → Shared → Prop} {s : Shared}
end
def Calm2 (A : Around) (fp : List Addr) (h : Heap) : Prop := A.handled = none ∨ ∃ x1, HotAt A x1 h ∧ ∀ b ∈ fp, x1 ≠ b
structure HotM (X : Cx) (H : Hp) (s : Shared) (x1 : Addr) : Prop where
  hot : HotAt X.A x1 s.heap
  free : H x1 = none
  loc : x1 ≠ X.env.locals
  fs : x1 ∉ X.fs
  ne : ∀ pins b, FpOk X pins H b → x1 ≠ b
def Md (X : Cx) : Prop := ∀ (pins : List (Addr × Obj)) (σ : L2.St) (H : Hp) (s : Shared), L2.Inv X pins σ H s → X.A.handled = none ∨ ∃ x1, HotM X H s x1
theorem Md.at {X : Cx} (md : Md X) {pins : List (Addr × Obj)} {σ : L2.St} {H : Hp} {s : Shared} {fp : List Addr} (I : L2.Inv X pins σ H s) (hf : ∀ b ∈ fp, FpOk X pins H b) : Calm2 X.A fp s.heap := by
  rcases md pins σ H s I with h | ⟨x1, h⟩
  · exact .inl h
  · exact .inr ⟨x1, h.hot, fun b hb => h.ne pins b (hf b hb)⟩
structure TurnM (P : Program) (w : World) (K : PySem.W.Frag) (tg : Expr) (J : It) (fp : List Addr) (it : Addr) (tn : Nat → Heap → Prop) : Prop where
  mem : it ∈ fp
  obj : ∀ i h, tn i h → ∀ b ∈ fp, ∃ o, h.get? b = some o ∧ ∀ v, o.data ≠ .cell v
  keep : ∀ i h h', tn i h → (∀ b ∈ fp, ∀ o, h.get? b = some o → h'.get? b = some o) → tn i h'
  item : ∀ (X : Cx), X.prog = P → X.w = w → X.K = K → ∀ (i : Nat) (pins : List (Addr × Obj)) (s : Shared) (σ : L2.St) (H : Hp) (E : Value → Shared → Prop), Calm2 X.A fp s.heap → L2.Inv X pins σ H s → (∀ b ∈ fp, FpOk X pins H b) → tn i s.heap → J.go i H →
    wpAny (model P w) X.A (pyNext (.ref it)) (fun r s1 => ∃ u, r = some u ∧ wpAny (model P w) X.A (letOwnedTupleGo tg (.ref it) u) (fun _ s2 => ∃ x H', L2.Inv X pins σ H' s2 ∧ RelV x u ∧ J.yld i H x H' ∧ tn (i + 1) s2.heap ∧ ∀ b ∈ fp, H' b = none) E s1) E s
  done : ∀ (X : Cx), X.prog = P → X.w = w → X.K = K → ∀ (i : Nat) (pins : List (Addr × Obj)) (s : Shared) (σ : L2.St) (H : Hp) (E : Value → Shared → Prop), Calm2 X.A fp s.heap → L2.Inv X pins σ H s → (∀ b ∈ fp, FpOk X pins H b) → tn i s.heap → J.stop i H →
    wpAny (model P w) X.A (pyNext (.ref it)) (fun r s1 => r = none ∧ L2.Inv X pins σ H s1) E s
  self : ∀ (A : Around) (i : Nat) (s : Shared) (Q : Value → Shared → Prop) (E : Value → Shared → Prop), tn i s.heap → Q (.ref it) s → wpAny (model P w) A (pyIter (.ref it)) Q E s
section
variable {P : Program} {w : World} {K : PySem.W.Frag} {tg : Expr}
end
def PIEM (X : Cx) (pins : List (Addr × Obj)) (σ : L2.St) (tg : Expr) (R : It → Hp → Prop) (itv : Value) (s2 : Shared) : Prop :=
  ∃ (it : Addr) (fp : List Addr) (tn : Nat → Heap → Prop) (J : It) (H' : Hp), itv = .ref it ∧ L2.Inv X pins σ H' s2 ∧ TurnM X.prog X.w X.K tg J fp it tn ∧ tn 0 s2.heap ∧ (∀ b ∈ fp, FpOk X pins H' b) ∧ R J H'
structure PIM (X : Cx) (tg iter : Expr) (wi : TI) : Prop where
  run : ∀ (pins : List (Addr × Obj)) (s : Shared) (σ : L2.St) (H : Hp) (R : It → Hp → Prop), L2.Inv X pins σ H s → wi σ H R → wpAny (model X.prog X.w) X.A (eval iter X.env) (fun v s1 => wpAny (model X.prog X.w) X.A (pyIter v) (PIEM X pins σ tg R) X.xe s1) X.xe s
section
variable {X : Cx} {tg : Expr}
theorem PIM.or {iter : Expr} {w w' : TI} (h : PIM X tg iter w) (h' : PIM X tg iter w') : PIM X tg iter (fun σ H R => w σ H R ∨ w' σ H R) :=
  ⟨fun pins s σ H R I q => q.elim (h.run pins s σ H R I) (h'.run pins s σ H R I)⟩
end
section
variable {X : Cx} {L : Lp} {Γ Γ0 Γ1 Γ2 Γ3 Γ4 Γ' : Ctx} {K : PySem.W.Frag} {F F' H H' : Hp} {B : Bs}
def SIM (X : Cx) (Γ : Ctx) (tg iter : Expr) (f : AF) (Γ' : Ctx) : Prop :=
  ∃ wi : TI, PIM X tg iter wi ∧ ∀ (B : Bs) (σ : L2.St) (env : List D) (F H : Hp) (ds : List D) (R : It → Hp → Prop), Rel X.K B Γ σ env F H → f env = some ds →
    (∀ J F' H', Same F F' → Same H H' → Rel X.K B Γ' σ env F' H' → ItOk X.K F' J ds → R J H') → wi σ H R
end
end Pf

set_option Elab.async false
set_option linter.all false
set_option maxRecDepth 100000
set_option maxHeartbeats 4000000
namespace Pf
open PySem L2 L2H HotX
section
variable {prog : Program} {w : World} {A : Around} {E : Value → Shared → Prop} {s : Shared}
end
section
variable {P : Program} {w : World} {K : PySem.W.Frag}
end
section
variable {X : Cx} {tg : Expr}
end
section
variable {X : Cx} {L : Lp} {Γ Γ0 Γ1 Γ2 Γ3 Γ4 Γ' : Ctx} {K : PySem.W.Frag} {F F' H H' : Hp} {B : Bs}
end
end Pf

set_option Elab.async false
set_option linter.all false
set_option maxRecDepth 100000
set_option maxHeartbeats 4000000
namespace Pf
open PySem L2 L2H HotX
section
variable {X : Cx}
end
end Pf

set_option Elab.async false
set_option linter.all false
set_option maxRecDepth 100000
set_option maxHeartbeats 4000000
namespace Pf
open PySem L2 L2H HotX
section
variable {prog : Program} {w : World} {A : Around} {E : Value → Shared → Prop} {s : Shared}
end
section
variable {X : Cx}
end
section
variable {X : Cx} {L : Lp} {Γ Γ0 Γ1 Γ2 Γ3 Γ4 Γ' : Ctx} {K : PySem.W.Frag} {F F' H H' : Hp} {B : Bs}
def SIgM (X : Cx) (Γ : Ctx) (tg iter : Expr) (f : AF) (Γ' : Ctx) : Prop :=
  ∃ wi : TI, PIM X tg iter wi ∧ ∀ (B : Bs) (σ : L2.St) (env : List D) (F H : Hp) (ds : List D) (R : It → Hp → Prop), Rel X.K B Γ σ env F H → f env = some ds →
    (∀ J F' H', Same F F' → Same H H' → Rel X.K B Γ' σ env F' H' → ItOkG X.K F' H' J ds → R J H') → wi σ H R
theorem SIM.g {tg iter : Expr} {f : AF} (h : SIM X Γ tg iter f Γ') : SIgM X Γ tg iter f Γ' := by
  obtain ⟨wi, p, q⟩ := h
  exact ⟨wi, p, fun B σ env F H ds R r e k => q B σ env F H ds R r e fun J F' H' s1 s2 r' it => k J F' H' s1 s2 r' ⟨fun i F1 H a b _ => it.go i F1 H a b, fun i F1 H x H' a b _ => it.yld i F1 H x H' a b, fun i F1 H a b _ => it.stop i F1 H a b⟩⟩
end
end Pf

set_option Elab.async false
set_option linter.all false
set_option maxRecDepth 100000
set_option maxHeartbeats 4000000
namespace Pf
open PySem L2 L2H HotX
structure FnM (P : Program) (w : World) (K : PySem.W.Frag) (mg : Str → Option Value) (base : Heap) (k : Nat) (f : Addr) (fd : FuncData) (ps : List Str) (sp : Sp) : Prop where
  calm : FnOk P w K mg base CX0 k f fd ps sp
  hot : FnH P w K mg base CX0 k f fd ps sp
section
variable {X : Cx} {k : Nat} {f : Addr} {fd : FuncData} {ps : List Str} {sp : Sp}
end
section
variable {X : Cx} {L : Lp} {Γ Γ0 Γ1 Γ2 Γ3 Γ4 Γ' : Ctx} {K : PySem.W.Frag} {F F' H H' : Hp} {B : Bs}
theorem ss_never {st : Stmt} : SS X L Γ st (fun _ => none) Γ' := ⟨fun _ _ _ => False, ⟨fun _ _ _ _ _ _ h => h.elim⟩, fun _ _ _ _ _ _ _ _ e _ => by cases e⟩
end
end Pf

set_option Elab.async false
set_option linter.all false
set_option maxRecDepth 100000
set_option maxHeartbeats 4000000
namespace Pf
open PySem L2 L2H HotX
section
variable {prog : Program} {w : World} {A : Around} {E : Value → Shared → Prop} {s : Shared} {r : Addr} {a b c : Int} {t u v : Tok} {n : Nat}
end
end Pf

set_option Elab.async false
set_option linter.all false
set_option maxRecDepth 100000
set_option maxHeartbeats 4000000
namespace Pf
open PySem PySem.Spec PyProof.Rows L2 L2H HotX
section
variable {prog : Program} {w : World} {A : Around} {E : Value → Shared → Prop} {s : Shared} {r L it : Addr} {n : Nat} {c0 : Nat} {fp wr : List Addr} {G : Array GenState → Array GenState → Prop} {P : Nat → Value → Prop} {St : Nat → Shared → Prop}
end
section
variable {X : Cx} {Γ Γ1 Γ2 : Ctx} {e : Expr} {te : L2.St → Hp → (Int → Int → Hp → Prop) → Prop}
end
end Pf

set_option Elab.async false
set_option linter.all false
set_option maxRecDepth 100000
set_option maxHeartbeats 4000000
namespace Pf
open PySem L2 L2H HotX
section
variable {X : Cx} {L : Lp} {Γ Γ0 Γ1 Γ2 Γ3 Γ4 Γ' : Ctx} {K : PySem.W.Frag} {F F' H H' : Hp} {B : Bs}
end
section
variable {X : Cx} {k : Nat} {f C : Addr} {fd : FuncData} {ps : List Str} {sp : Sp}
end
end Pf

set_option Elab.async false
set_option linter.all false
set_option maxRecDepth 100000
set_option maxHeartbeats 4000000
namespace Pf
open PySem L2 L2H HotX
section
variable {P : Program} {w : World} {K : PySem.W.Frag} {mg : Str → Option Value} {base : Heap} {f C C' : Addr} {fd : FuncData} {ps : List Str} {k m n : Nat} {sp : Sp}
end
end Pf

set_option Elab.async false
set_option linter.all false
set_option maxRecDepth 100000
set_option maxHeartbeats 4000000
namespace Pf
open PySem L2 L2H HotX
section
variable {X : Cx} {Γ : Ctx}
end
end Pf

set_option Elab.async false
set_option linter.all false
set_option maxRecDepth 100000
set_option maxHeartbeats 4000000
namespace Pf
open PySem PySem.Spec PyProof.Rows L2 L2H HotX
section
variable {prog : Program} {w : World} {A : Around} {s : Shared}
end
section
variable {X : Cx} {Γ Γ1 : Ctx}
end
end Pf

set_option Elab.async false
set_option linter.all false
set_option maxRecDepth 100000
set_option maxHeartbeats 4000000
namespace Pf
open PySem PySem.Spec PyProof.Rows L2 L2H HotX
section
variable {prog : Program} {w : World} {A : Around} {s : Shared}
end
section
variable {X : Cx} {Γ Γ1 : Ctx}
end
end Pf

set_option Elab.async false
set_option linter.all false
set_option maxRecDepth 100000
set_option maxHeartbeats 4000000
namespace Pf
open PySem PySem.W PySem.Calls PyProof.Rows L2 L2H HotX
section
variable {X : Cx} {L : Lp} {Γ Γ1 Γ2 Γx Γ' : Ctx} {K : PySem.W.Frag} {F F' H H' : Hp} {B : Bs}
end
end Pf

set_option Elab.async false
set_option linter.all false
set_option maxRecDepth 100000
set_option maxHeartbeats 4000000
namespace Pf
open PySem L2
section
variable {X : Cx} {L : Lp} {Γ Γ1 Γ' : Ctx} {K : PySem.W.Frag}
end
end Pf

set_option Elab.async false
set_option linter.all false
set_option maxRecDepth 100000
set_option maxHeartbeats 4000000
namespace Pf
open PySem L2
section
variable {X : Cx} {L : Lp} {Γ Γ1 Γ2 Γx Γ' : Ctx} {K : PySem.W.Frag} {F F' H H' : Hp} {B : Bs}
end
end Pf

set_option Elab.async false
set_option linter.all false
set_option maxRecDepth 100000
set_option maxHeartbeats 4000000
namespace Pf
open PySem L2
section
variable {X : Cx} {L : Lp} {Γ Γ1 Γ2 Γx Γ' : Ctx} {K : PySem.W.Frag} {F F' H H' : Hp} {B : Bs}
end
end Pf

set_option Elab.async false
set_option linter.all false
set_option maxRecDepth 100000
set_option maxHeartbeats 4000000
namespace Pf
open PySem L2
section
variable {X : Cx} {L : Lp} {Γ Γ1 Γ2 Γx Γx1 Γ' : Ctx} {K : PySem.W.Frag} {F F' H H' : Hp} {B : Bs}
def SBds (X : Cx) (L : Lp) (Γ Γx : Ctx) (sts : List Stmt) (f : SF) (Γ' : Ctx) : Prop :=
  ∃ t : TS, PSs X sts t ∧ ∀ (B : Bs) (σ : St) (env : List D) (F H : Hp) (o : Out) (E : Ends), Rel X.K B Γ σ env F H → f env = some o → PostS X.K B ⟨L.ρ, L.bk, L.ct, L.pin, fun _ _ _ _ => True⟩ Γ' F σ env E o →
    (∀ x, o = .rt (mkX x) → ∀ c dd σ' F' H', Same F F' → Rel X.K B Γx σ' env F' H' → Kp L σ env σ' env → ExIs X.K F' c dd x → L.wx c dd σ' H') → t E σ H
theorem SBds.sub {sts : List Stmt} {f : SF} (h : SBds X L Γ Γx sts f Γ1) (l : LeC Γ' Γ1 = true) : SBds X L Γ Γx sts f Γ' := by
  obtain ⟨t, p, q⟩ := h
  exact ⟨t, p, fun B σ env F H o E r e k kx => q B σ env F H o E r e (k.down l) kx⟩
end
end Pf

set_option Elab.async false
set_option linter.all false
set_option maxRecDepth 100000
set_option maxHeartbeats 4000000
namespace Pf
open PySem L2
end Pf

set_option Elab.async false
set_option linter.all false
set_option maxRecDepth 100000
set_option maxHeartbeats 4000000
namespace Pf
open PySem L2
section
variable {X : Cx} {L : Lp} {Γ Γ1 Γ2 Γ' : Ctx} {K : PySem.W.Frag} {F F' H H' : Hp} {B : Bs}
abbrev PW (l : List (Int × Int)) : Prop := l.Pairwise fun x y => SrtO.lexB y x = false
end
end Pf

set_option Elab.async false
set_option linter.all false
set_option maxRecDepth 100000
set_option maxHeartbeats 4000000
namespace Pf
open PySem L2
def getF (nm : Str) : List (D × D) → Option D
  | [] => none
  | (.str s, d) :: r => if nm = s then some d else getF nm r
  | _ :: r => none
def pFld (C : Addr) (nm : Str) : D → Option D
  | .dict ((.none, .int c) :: r) => if c = (C : Int) then getF nm r else none
  | _ => none
def isM (C : Addr) (m : Str) : D → Bool
  | .dict ((.none, .int c) :: r) => decide (c = (C : Int)) && (getF m r).isNone
  | _ => false
def recO (C : Addr) (r : List (D × D)) : D := .dict ((.none, .int (C : Int)) :: r)
section
variable {X : Cx} {L : Lp} {Γ Γ1 Γ2 Γ' : Ctx} {K : PySem.W.Frag} {F F' H H' : Hp} {B : Bs}
theorem dic_rec {a : Addr} {o : HO} {c : Int} {r : List (D × D)} {vs : List V} (h : DicO a o ((.none, .int c) :: r) vs) : ∃ (C dx : Addr) (fs : List (Str × V)), o = .ins C dx fs ∧ c = (C : Int) ∧ r.map (·.1) = fs.map (fun p => .str p.1) ∧ vs = .int c :: fs.map (·.2) := by
  rcases h with ⟨l, rfl, h1, _⟩ | ⟨l, r', rfl, h1, _⟩ | ⟨l, r', rfl, h1, _⟩ | ⟨C, dx, fs, r', rfl, h1, h2, h3⟩
  · cases l with
    | nil => cases h1
    | cons p l =>
      simp only [List.map_cons, List.cons.injEq] at h1
      have := h1.1
      cases hp : p.1 <;> rw [hp] at this <;> cases this
  · simp at h1
  · simp [nEnc] at h1
  · simp only [List.cons.injEq, Prod.mk.injEq, PyData.int.injEq, true_and] at h1
    obtain ⟨e1, e2⟩ := h1
    subst e1 e2
    exact ⟨C, dx, fs, rfl, rfl, h2, h3⟩
theorem getF_at {P : D → V → Prop} (nm : Str) : ∀ {r : List (D × D)} {fs : List (Str × V)}, r.map (·.1) = fs.map (fun p => .str p.1) → BwAll P (r.map (·.2)) (fs.map (·.2)) →
    (∃ v d, getF nm r = some d ∧ fs.lookup nm = some v ∧ P d v) ∨ (getF nm r = none ∧ fs.lookup nm = none)
  | [], [], _, _ => .inr ⟨rfl, rfl⟩
  | [], _ :: _, h, _ => by simp at h
  | _ :: _, [], h, _ => by simp at h
  | (k, d) :: r, (s, v) :: fs, h, b => by
    simp only [List.map_cons, List.cons.injEq] at h
    obtain ⟨h1, h2⟩ := h
    subst h1
    by_cases c : nm = s
    · subst c
      refine .inl ⟨v, d, if_pos rfl, ?_, b.1⟩
      simp [List.lookup]
    · have l : List.lookup nm ((s, v) :: fs) = fs.lookup nm := by
        have : (nm == s) = false := by simpa using c
        simp only [List.lookup, this]
      have g : getF nm ((.str s, d) :: r) = getF nm r := if_neg c
      rw [g, l]
      exact getF_at nm h2 b.2
theorem sb_fld {C : Addr} {nm : Str} {e : Expr} {f : EF} {n : Nat} {pos : Pos} (T : Cls X.K C) (N : NoAttr X.K C nm) (h : SB X Γ e f n Γ1) (hn : n ≤ 1 := by decide) (hb : attributeBase e nm X.env (eval e X.env) = eval e X.env := by rfl) :
    SB X Γ (.Attribute e nm pos) (e1 (pFld C nm) f) 0 Γ1 := by
  obtain ⟨t, p, q⟩ := h
  refine ⟨_, pe_fld p hb, fun B σ env F H d Q rr e' k => ?_⟩
  obtain ⟨x, hx, hg⟩ := Option.bind_eq_some_iff.mp e'
  refine q B σ env F H x _ rr hx fun v F1 H1 s1 t1 r1 b1 => ?_
  unfold pFld at hg
  split at hg
  case h_2 => cases hg
  rename_i c r
  split at hg
  case isFalse => cases hg
  rename_i ec
  obtain ⟨a, o, vs, rfl, ho, hd, hB⟩ := Bw.dic r1.fh b1
  obtain ⟨C', dx, fs, rfl, e1, e2, e3⟩ := dic_rec hd
  have eC : C' = C := Int.ofNat_inj.mp (e1.symm.trans ec)
  subst eC e3
  have z : n - 1 = 0 := by omega
  rw [z] at hB
  have hB2 : BwAll (Bw X.K F1 H1 0) (r.map (·.2)) (fs.map (·.2)) := hB.2
  rcases getF_at nm e2 hB2 with ⟨v, d', g1, g2, g3⟩ | ⟨g1, _⟩
  · rw [hg] at g1
    cases g1
    exact ⟨a, C', dx, fs, v, rfl, ho, T, N, g2, k v F1 H1 s1 t1 r1 g3⟩
  · rw [hg] at g1
    cases g1
theorem isM_inv {C : Addr} {m : Str} {d : D} (h : isM C m d = true) : ∃ r, d = recO C r ∧ getF m r = none := by
  unfold isM at h
  split at h
  · rename_i c r
    simp only [Bool.and_eq_true, decide_eq_true_eq, Option.isNone_iff_eq_none] at h
    obtain ⟨rfl, h2⟩ := h
    exact ⟨r, rfl, h2⟩
  · cases h
theorem rec_at {C : Addr} {m : Str} {d : D} {v : V} (h : isM C m d = true) (r : Rp K F v d) : ∃ a dx fs, v = .ref a ∧ F a = some (.ins C dx fs) ∧ fs.lookup m = none := by
  obtain ⟨q, rfl, h2⟩ := isM_inv h
  obtain ⟨a, o, vs, rfl, ho, hd, hB⟩ := Rp.vdic r
  obtain ⟨C', dx, fs, rfl, e1, e2, e3⟩ := dic_rec hd
  have eC : C' = C := (Int.ofNat_inj.mp e1).symm
  subst eC e3
  have hB2 : BwAll (fun d v => Rp K F v d) (q.map (·.2)) (fs.map (·.2)) := (rpAll_bw hB).2
  rcases getF_at m e2 hB2 with ⟨v, d', g1, _⟩ | ⟨_, g2⟩
  · rw [h2] at g1; cases g1
  · exact ⟨a, dx, fs, rfl, ho, g2⟩
def eMeth (C : Addr) (m : Str) (g : List D → Option D) (fo : EF) (fs : AF) : EF := fun env => (fo env).bind fun d => if isM C m d = true then (fs env).bind fun ds => g (d :: ds) else none
def delH (x : Addr) (H : Hp) : Hp := fun a => if a = x then none else H a
def spI (K : PySem.W.Frag) (C : Addr) (m : Nat) (g : List D → Option D) : Sp := fun vs H Q _ => ∃ (F : Hp) (x dx : Addr) (us : List V) (ds : List D) (d : D), vs = .ref x :: us ∧ H x = some (.ins C dx []) ∧ Sub F (delH x H) ∧ us.length = m ∧ RpAll K F us ds ∧ g ds = some d ∧
  ∀ F' H', Got K F (delH x H) F' H' 1 d (.ref x) → Q .non H'
def SSi (X : Cx) (Γ : Ctx) (sts : List Stmt) (f : SF) (Γ' : Ctx) : Prop :=
  ∃ t : TS, PSs X sts t ∧ ∀ (B : Bs) (σ : St) (env env' : List D) (F H : Hp) (E : Ends), Rel X.K B Γ σ env F H → f env = some (.nx env') → (∀ σ' F' H', Same F F' → Rel X.K B Γ' σ' env' F' H' → σ'[0]? = σ[0]? → E.nx σ' H') → t E σ H
theorem ssi_nil : SSi X Γ [] sSkip Γ := ⟨_, pss_nil, fun B σ env env' F H E r e k => by
  cases e
  exact k σ F H (Same.refl _) r rfl⟩
def sFldI (C : Addr) (nm : Str) (fe : EF) : SF := fun env => (fe env).bind fun d => (env[0]?).bind fun x => match x with
  | .dict ((.none, .int c) :: r) => if c = (C : Int) ∧ getF nm r = none ∧ r.length < 900 then some (.nx (env.set 0 (recO C (r ++ [(.str nm, d)])))) else none
  | _ => none
theorem putF_new {nm : Str} {v : V} : ∀ {fs : List (Str × V)}, fs.lookup nm = none → putF nm v fs = fs ++ [(nm, v)]
  | [], _ => rfl
  | (s, u) :: fs, h => by
    have c : ¬ nm = s := fun c => by subst c; simp [List.lookup] at h
    have h : fs.lookup nm = none := by
      have : (nm == s) = false := by simpa using c
      simpa only [List.lookup, this] using h
    show (if s = nm then (s, v) :: fs else (s, u) :: putF nm v fs) = _
    rw [if_neg fun z => c z.symm, putF_new h]
    rfl
theorem ssi_fld {C : Addr} {nm : Str} {o e : Expr} {fe : EF} {rest : List Stmt} {g : SF} {pos pos' : Pos} (T : Cls X.K C) (N : NoAttr X.K C nm) (hx : PE X o (tVar 0)) (h : SE X Γ e fe 0 Γ1) (hi : Γ1[0]? = some (some 1)) (hr : SSi X Γ1 rest g Γ')
    (hs : swapsWith e (some (.Attribute o nm pos')) pos.line X.env = pure false := by rfl) : SSi X Γ (.Assign [.Attribute o nm pos'] e pos :: rest) (sSeq (sFldI C nm fe) g) Γ' := by
  obtain ⟨t, p, q⟩ := h
  obtain ⟨t2, p2, q2⟩ := hr
  refine ⟨_, pss_cons (ps_fld hx p hs) p2, fun B σ env env' F H E rr e' k => ?_⟩
  obtain ⟨o1, h1, e'⟩ := Option.bind_eq_some_iff.mp e'
  obtain ⟨d, hd, h1⟩ := Option.bind_eq_some_iff.mp h1
  obtain ⟨x, hx0, h1⟩ := Option.bind_eq_some_iff.mp h1
  split at h1
  case h_2 => cases h1
  rename_i c r
  split at h1
  case isFalse => cases h1
  rename_i hc
  obtain ⟨ec, hnew, hlen⟩ := hc
  cases h1
  refine q B σ env F H d _ rr hd fun v F1 H1 s1 t1 r1 => ?_
  obtain ⟨a, oo, vs, h0, hO, hD, hR, wr⟩ := slot_dwrite hi r1.rel hx0
  obtain ⟨C', dx, fs, rfl, e1, e2, e3⟩ := dic_rec hD
  have eC : C' = C := Int.ofNat_inj.mp (e1.symm.trans ec)
  subst eC e3 ec
  have hR2 : RpAll X.K F1 (fs.map (·.2)) (r.map (·.2)) := by
    simp only [List.map_cons] at hR
    cases hR with
    | cons _ q => exact q
  have hl : fs.lookup nm = none := by
    rcases getF_at nm e2 (rpAll_bw hR2) with ⟨v, d', g1, _⟩ | ⟨_, g2⟩
    · rw [hnew] at g1; cases g1
    · exact g2
  have fl : fs.length = r.length := by have := congrArg List.length e2; simpa using this.symm
  refine ⟨_, h0, a, C', dx, fs, rfl, hO, T, N, by omega, ?_⟩
  rw [putF_new hl]
  have w := wr (.ins C' dx (fs ++ [(nm, v)])) ((.none, .int (C' : Int)) :: (r ++ [(.str nm, d)])) (.int (C' : Int) :: (fs ++ [(nm, v)]).map (·.2))
    (.inr (.inr (.inr ⟨C', dx, fs ++ [(nm, v)], r ++ [(.str nm, d)], rfl, rfl, by rw [List.map_append, List.map_append, e2]; rfl, rfl⟩)))
    (by
      simp only [List.map_cons, List.map_append, List.map_nil]
      exact .cons (.int _) (RpAll.append hR2 (.cons r1.bw .nil)))
  exact q2 B σ _ env' F1 _ E w e' fun σ3 F3 H3 s3 r3 h3 => k σ3 F3 H3 (s1.trans s3) r3 h3
def runI (C : Addr) (m N : Nat) (b : SF) : List D → Option D := fun ds => if ds.length = m then (b (recO C [] :: (ds ++ List.replicate (N - 1 - m) .none))).bind fun o => match o with
  | .nx env => env[0]?
  | _ => none else none
theorem fn_init {P : Program} {w : World} {mg : Str → Option Value} {base : Heap} {x qual : Str} {st : Stmt} {f C : Addr} {fd : FuncData} {N ps : List Str} {k m : Nat} {b : SF} {Γ' : Ctx}
    (G : Fun K x qual st f fd) (S : FnScope N ps (defScope st)) (hm : ps.length = m + 1 := by rfl) (hN : N.length = N.length - 1 + 1 := by rfl) (h1' : Γ'[0]? = some (some 1) := by rfl)
    (hb : ∀ (cdv : Value) (A : Around) (outer : List Env) (s : Shared) (H : Hp) (E : XK), Room k (A.deeper (PyProof.Rows.envOfC qual (defScope st) s.heap.objs.size f cdv)) →
      SSi (cxOf CX0 P w K mg base N qual (defScope st) f cdv A outer s H E).nox (some 1 :: ctx0 m (N.length - 1)) (defBody st) b Γ') :
    FnOk P w K mg base CX0 (k + 1) f fd ps (spI K C m (runI C m N.length b)) := by
  refine G.ok S (fun vs H Q E h => ?_) (fun cdv A outer s H vs Q E hr h => ?_)
  · obtain ⟨F, x, dx, us, ds, d, rfl, _, _, h1, _⟩ := h
    rw [List.length_cons, h1, hm]
  obtain ⟨F, x, dx, us, ds, d, rfl, hx, sf, h1, h2, h3, h4⟩ := h
  obtain ⟨t, p, q⟩ := hb cdv A outer s H E hr
  refine ⟨t, p, ?_⟩
  have hl : ds.length = m := h2.length.symm.trans h1
  unfold runI at h3
  rw [if_pos hl] at h3
  obtain ⟨o, ho, h3⟩ := Option.bind_eq_some_iff.mp h3
  cases o with
  | nx env' =>
    have fx : F x = none := sf.dom x (if_pos rfl)
    have sd : Same (delH x H) H := .of fun a u e => by
      unfold delH at e
      split at e
      · cases e
      · exact e
    refine q ⟨delH x H, F⟩ _ _ env' F H _ ?_ ho ?_
    · refine ⟨fun a => if a = x then 1 else 0, ?_, ⟨sf.up sd, sd, Same.refl _, fun _ _ q => .inl q, fun a => ?_, fun a ha => ?_⟩⟩
      · have z := slots_start (H := H) (N.length - 1 - m) h2
        unfold ctx0
        rw [hl] at z
        unfold L2.start
        have e : N.length - (V.ref x :: us).length = N.length - 1 - m := by rw [List.length_cons, h1]; omega
        rw [e, List.map_cons]
        exact ⟨.ref x, fun a => if a = x then 1 else 0, fun _ => 0, rfl, ⟨x, _, [.int (C : Int)], fun _ => 0, rfl, hx, fx, .inr (.inr (.inr ⟨C, dx, [], [], rfl, rfl, rfl, rfl⟩)), ⟨fun _ => 0, fun _ => 0, ⟨.int _, fun _ => rfl⟩, fun _ => rfl, fun _ => rfl⟩, fun b => rfl⟩, z, fun b => rfl⟩
      · show (if a = x then 1 else 0) ≤ 1
        split <;> omega
      · have ha : 0 < (if a = x then 1 else 0) := ha
        by_cases c : a = x
        · show delH x H a = none
          unfold delH
          rw [if_pos c]
        · rw [if_neg c] at ha; omega
    · intro σ' F' H' s1 r1 h0
      have h0 : σ'[0]? = some (some (V.ref x)) := h0
      obtain ⟨f2, sl, ok⟩ := r1
      obtain ⟨v1, d1, f3, f4, g1, g2, g3, g4, _⟩ := sl.focus h1'
      rw [h0] at g1
      cases g1
      have h3 : env'[0]? = some d := h3
      rw [h3] at g2
      cases g2
      exact h4 F' H' ⟨f3, g3, ok.less fun b => by have := g4 b; omega⟩
  | rt d => cases h3
  | bk _ => cases h3
  | ct _ => cases h3
theorem se_make {C : Addr} {k : Nat} {f : Addr} {fd : FuncData} {ps : List Str} {x : Str} {p pos : Pos} {e : Expr} {es : List Expr} {fs : AF} {ns : List Nat} {m : Nat} {g : List D → Option D}
    (M : Mk X.K C f) (G : FnOk X.prog X.w X.K X.mg X.base CX0 k f fd ps (spI X.K C m g)) (hr : Room (k + 1) X.A) (hg : Gl X x) (hm : X.mg x = some (.ref C)) (hb : Binds X.K fd ps [])
    (ha : SA X Γ (e :: es) fs ns Γ1) (hn : (ns.all (· == 0)) = true := by rfl) (hl : ns.length = m := by rfl) (hdb : (x == ("__debug__" : Str)) = false := by decide) (he : starEach (e :: es) X.env = (false, eval e X.env) :: starEach es X.env := by rfl) (hpl : (backTo pos (starEach es X.env)).any (·.1) = false := by rfl) :
    SE X Γ (.Call (.Name x p) (e :: es) [] pos) (eL g fs) 1 Γ1 := by
  obtain ⟨ta, pa, qa⟩ := ha
  refine ⟨_, pe_make M G hr hg hm hb .nil pass0 pa hdb he hpl, fun B σ env F H d Q rr e' k => ?_⟩
  obtain ⟨ds, hx, hgd⟩ := Option.bind_eq_some_iff.mp e'
  refine qa B σ env F H ds _ rr hx fun vs F1 H1 s1 t1 r1 b1 => ?_
  intro y dx hy hdx ne
  rw [List.append_nil]
  have sd : Same H1 (delH y (upd (upd H1 dx (.own y)) y (.ins C dx []))) := .of fun a u q => by
    have n1 : a ≠ y := ne_of_none q hy
    have n2 : a ≠ dx := ne_of_none q hdx
    unfold delH
    rw [if_neg n1, upd_ne n1, upd_ne n2]
    exact q
  refine ⟨F1, y, dx, vs, ds, d, rfl, upd_same, r1.fh.up sd, (bwl_rp0 b1).trans hl, b1.rp0 hn, hgd, fun F2 H2 got => ⟨rfl, ?_⟩⟩
  obtain ⟨s3, t3, r3⟩ := r1.got (got.less sd)
  exact k _ _ _ (s1.trans s3) (t1.trans t3) r3
end
end Pf

set_option Elab.async false
set_option linter.all false
set_option maxRecDepth 100000
set_option maxHeartbeats 4000000
namespace Pf
open PySem L2
section
variable {X : Cx} {L : Lp} {Γ Γ1 Γ2 Γ' : Ctx} {K : PySem.W.Frag} {F F' H H' : Hp} {B : Bs}
end
section
variable {X : Cx} {L : Lp} {Γ Γ1 Γ2 Γ' : Ctx}
end
def gLaw : List D → Option D
  | [.list ds] => (intsD ds).bind fun ns => if ns.length ≤ 63 then some (.bool true) else none
  | _ => none
theorem gLaw_true {ns : List Int} (h : ns.length ≤ 63) : gLaw [.list (ns.map .int)] = some (.bool true) := by
  have e : ∀ ns : List Int, intsD (ns.map .int) = some ns := fun ns => by
    induction ns with
    | nil => rfl
    | cons n ns ih => simp [intsD, ih]
  show (intsD (ns.map .int)).bind _ = _
  rw [e, Option.bind_some, if_pos h]
theorem gLaw_le {f : List D → Option D} (h : ∀ ns : List Int, ns.length ≤ 63 → f [.list (ns.map .int)] = some (.bool true)) {ds : List D} {d : D} (e : gLaw ds = some d) : f ds = some d := by
  unfold gLaw at e
  split at e
  · rename_i ds
    obtain ⟨ns, h1, e⟩ := Option.bind_eq_some_iff.mp e
    split at e
    · rename_i c
      cases e
      have : ∀ {ds : List D} {ns : List Int}, intsD ds = some ns → ds = ns.map .int := by
        intro ds
        induction ds with
        | nil => intro ns h; cases h; rfl
        | cons d ds ih =>
          intro ns h
          cases d with
          | int i =>
            obtain ⟨m, h2, rfl⟩ := Option.map_eq_some_iff.mp (show (intsD ds).map (i :: ·) = some ns from h)
            rw [ih h2]
            rfl
          | _ => cases h
      rw [this h1]
      exact h ns c
    · cases e
  · cases e
theorem law_weak {P : Program} {w : World} {K : PySem.W.Frag} {mg : Str → Option Value} {base : Heap} {k : Nat} {f : Addr} {fd : FuncData} {ps : List Str} {g : List D → Option D} (F : FnOk P w K mg base CX0 k f fd ps (Pure K 1 0 g)) (h : ∀ ns : List Int, ns.length ≤ 63 → g [.list (ns.map .int)] = some (.bool true)) : FnOk P w K mg base CX0 k f fd ps (Pure K 1 0 gLaw) :=
  F.imp fun vs H Q E ⟨F, ds, d, a, b, c, e, q⟩ => ⟨F, ds, d, a, b, c, gLaw_le h e, q⟩
end Pf

set_option linter.all false
set_option Elab.async false
set_option maxRecDepth 100000
set_option maxHeartbeats 4000000
namespace Pf
open PySem L2
section
variable {prog : Program} {w : World} {A : Around} {E : Value → Shared → Prop} {s : Shared}
end
section
variable {X : Cx} {K : PySem.W.Frag} {Γ Γ1 Γ2 : Ctx}
end
end Pf

set_option Elab.async false
set_option linter.all false
set_option maxRecDepth 100000
set_option maxHeartbeats 4000000
namespace Pf
open PySem L2
section
variable {X : Cx} {Γ : Ctx}
theorem se_glI {x : Str} {i : Int} {pos : Pos} (h : ∃ t, X.mg x = some (Value.int i t)) (hg : Gl X x) (hd : (x == ("__debug__" : Str)) = false := by decide) : SE X Γ (.Name x pos) (eC (.int i)) 0 Γ := by
  obtain ⟨t, hm⟩ := h
  exact se_glob (v := .int i) hg hm ⟨t, rfl⟩ (fun _ => .int i) hd
end
end Pf

set_option Elab.async false
set_option linter.all false
set_option maxRecDepth 100000
set_option maxHeartbeats 4000000
namespace Pf
open PySem PySem.Spec PyProof.Rows L2
section
variable {X : Cx} {Γ Γ1 Γ2 : Ctx} {i : Nat} {a : Addr} {cls : Value} {dd : Option Addr}
end
end Pf

set_option Elab.async false
set_option linter.all false
set_option maxRecDepth 100000
set_option maxHeartbeats 4000000
namespace Pf
open PySem PySem.Spec PyProof.Rows L2
structure LamIx (sc scope : Scope) (d x : Str) : Prop where
  kind : scope.kind = .function
  co : scope.isCoroutine = false
  gen : scope.isGenerator = false
  cell : ∀ y ∈ scope.names, y.2 ≠ .cell
  free : ∀ y ∈ scope.names, y.2 = .free → sc.names.lookup y.1 = some .cell ∨ sc.names.lookup y.1 = some .free
  dF : scope.names.lookup d = some .free
  xL : scope.names.lookup x = some .local
section
variable {X : Cx} {pins : List (Addr × Obj)} {σ : L2.St} {H : Hp} {s : Shared}
end
end Pf

set_option Elab.async false
set_option linter.all false
set_option maxRecDepth 100000
set_option maxHeartbeats 4000000
namespace Pf
open PySem PySem.Spec PyProof.Rows L2
section
variable {X : Cx} {pins : List (Addr × Obj)} {σ : L2.St} {H : Hp} {s : Shared}
end
end Pf

set_option Elab.async false
set_option linter.all false
set_option maxRecDepth 100000
set_option maxHeartbeats 4000000
namespace Pf
open PySem PySem.Spec PyProof.Rows L2
structure Grew (s s' : Shared) : Prop where
  heap : ∀ b o, s.heap.get? b = some o → s'.heap.get? b = some o
  gens : s'.gens = s.gens
  drawn : s'.drawn = s.drawn
  os : s'.os = s.os
theorem Grew.eq {s s' : Shared} (g : Grew s s') : s' = { s with heap := s'.heap, toks := s'.toks } := by
  obtain ⟨_, h1, h2, h3⟩ := g
  cases s'
  cases s
  simp only at h1 h2 h3
  subst h1 h2 h3
  rfl
section
variable {X : Cx} {pins : List (Addr × Obj)} {σ : L2.St} {H : Hp} {s : Shared}
end
end Pf

set_option Elab.async false
set_option linter.all false
set_option maxRecDepth 100000
set_option maxHeartbeats 4000000
namespace Pf
open PySem PySem.Spec PyProof.Rows L2
section
variable {X : Cx} {Γ Γ1 : Ctx}
end
end Pf

set_option Elab.async false
set_option linter.all false
set_option maxRecDepth 100000
set_option maxHeartbeats 4000000
namespace Pf
open PySem PySem.Spec PyProof.Rows L2
structure FunL (K : PySem.W.Frag) (x qual : Str) (st : Stmt) (f : Addr) (fd : FuncData) (c : Addr) : Prop where
  ex : ∃ (oc : Value) (od : Option Addr) (kV doc pm : Value) (an : Option Addr) (ct : Value) (osl : Array (Option Value)),
    fd = PySem.W.fnOf x qual (defArgs st) (defBody st) (defScope st) .none kV doc pm an (.ref c) ct ∧ K.lookup f = some ⟨oc, od, .func fd, osl⟩ ∧ PySem.W.codeIn K (.ref c) qual = true
  kp : PySem.W.keepIn K (.ref f) = true
theorem FunL.fun {K : PySem.W.Frag} {x qual : Str} {st : Stmt} {f : Addr} {fd : FuncData} {c : Addr} (F : FunL K x qual st f fd c) : Fun K x qual st f fd :=
  let ⟨oc, od, kV, doc, pm, an, ct, osl, h1, h2, h3⟩ := F.ex
  ⟨⟨oc, od, kV, doc, pm, an, .ref c, ct, osl, h1, h2, h3⟩, F.kp⟩
end Pf

set_option Elab.async false
set_option linter.all false
set_option maxRecDepth 100000
set_option maxHeartbeats 4000000
namespace Pf
open PySem L2
section
variable {X : Cx} {Γ Γ1 : Ctx} {K : PySem.W.Frag}
end
end Pf

set_option Elab.async false
set_option linter.all false
set_option maxRecDepth 100000
set_option maxHeartbeats 4000000
namespace Pf
open PySem PySem.Spec PyProof.Rows L2
section
variable {X : Cx} {pins : List (Addr × Obj)} {σ : L2.St} {H : Hp} {s : Shared}
end
end Pf

set_option Elab.async false
set_option linter.all false
set_option maxRecDepth 100000
set_option maxHeartbeats 4000000
namespace Pf
open PySem PySem.Spec PyProof.Rows L2
section
variable {X : Cx} {Γ Γ1 : Ctx}
end
end Pf

set_option Elab.async false
set_option linter.all false
set_option maxRecDepth 100000
set_option maxHeartbeats 4000000
namespace Pf
open PySem L2
section
variable {X : Cx} {Γ Γ1 Γ2 : Ctx} {K : PySem.W.Frag} {F : Hp}
end
end Pf

set_option Elab.async false
set_option linter.all false
set_option maxRecDepth 100000
set_option maxHeartbeats 4000000
namespace Pf
open PySem L2
section
variable {X : Cx} {Γ Γ1 : Ctx} {K : PySem.W.Frag} {F : Hp}
end
end Pf

set_option Elab.async false
set_option linter.all false
set_option maxRecDepth 100000
set_option maxHeartbeats 4000000
namespace Pf
open PySem L2
section
variable {X : Cx} {Γ Γ1 : Ctx} {K : PySem.W.Frag}
section
variable {prog : Program} {w : World} {A : Around} {E : Value → Shared → Prop} {s : Shared}
end
variable {F H : Hp}
end
end Pf

set_option Elab.async false
set_option linter.all false
set_option maxRecDepth 100000
set_option maxHeartbeats 4000000
namespace Pf
open PySem L2
section
variable {X : Cx} {L : Lp} {Γ Γ' : Ctx} {K : PySem.W.Frag} {F H : Hp}
theorem OwnAll.rp0 {K : PySem.W.Frag} {F H F' : Hp} : ∀ {ds : List D} {vs : List V} {f : Fp}, OwnAll (Own K F H 0) ds vs f → ds.all flatD = true → RpAll K F' vs ds
  | [], [], _, _, _ => .nil
  | d :: ds, v :: vs, f, ⟨f1, f2, a, b, e⟩, h => .cons ((show Rp K F v d from a.1).flatUp (Bool.and_eq_true_iff.mp h).1) (OwnAll.rp0 b (Bool.and_eq_true_iff.mp h).2)
  | [], _ :: _, _, h, _ => h.elim
  | _ :: _, [], _, h, _ => h.elim
end
end Pf

set_option Elab.async false
set_option linter.all false
set_option maxRecDepth 100000
set_option maxHeartbeats 4000000
namespace Pf
open PySem L2
section
variable {prog : Program} {w : World} {A : Around} {E : Value → Shared → Prop} {s : Shared} {zz TI TO j1 j2 : Addr} {fq1 fq2 : List Addr} {n1 n2 i : Nat} {P1 P2 : Nat → Value → Prop} {St1 St2 : Nat → Heap → Prop} {u1 u2 q : Value} {f : Bool}
end
section
variable {P : Program} {w : World} {K : PySem.W.Frag}
end
section
variable {X : Cx} {Γ Γ1 Γ2 Γ3 Γ' : Ctx} {F F' H H' : Hp}
end
end Pf

set_option Elab.async false
set_option linter.all false
set_option maxRecDepth 100000
set_option maxHeartbeats 4000000
namespace Pf
open PySem L2 PySem.Spec PyProof.Rows
section
variable {X : Cx} {L : Lp} {Γ Γ0 Γ1 Γ2 Γ3 Γ' : Ctx} {K : PySem.W.Frag} {F F' H H' : Hp} {B : Bs}
end
end Pf

set_option Elab.async false
set_option linter.all false
set_option maxRecDepth 100000
set_option maxHeartbeats 4000000
namespace Pf
open PySem L2
section
variable {X : Cx} {L : Lp} {Γ Γ0 Γ1 Γ2 Γ3 Γ4 Γ' : Ctx} {K : PySem.W.Frag} {F F' H H' : Hp} {B : Bs}
end
end Pf

set_option Elab.async false
set_option linter.all false
set_option maxRecDepth 100000
set_option maxHeartbeats 4000000
namespace Pf
open PySem L2
section
variable {X : Cx} {L : Lp} {Γ Γ0 Γ1 Γ2 Γ3 Γ4 Γ' : Ctx} {K : PySem.W.Frag} {F F' H H' : Hp} {B : Bs}
end
end Pf

set_option Elab.async false
set_option linter.all false
set_option maxRecDepth 100000
set_option maxHeartbeats 4000000
namespace Pf
open PySem L2 PySem.Spec PyProof.Rows
section
variable {X : Cx} {L : Lp} {Γ Γ0 Γ1 Γ2 Γ3 Γ4 Γ' : Ctx} {K : PySem.W.Frag} {F F' H H' : Hp} {B : Bs}
end
end Pf

set_option Elab.async false
set_option linter.all false
set_option maxRecDepth 100000
set_option maxHeartbeats 4000000
namespace Pf
open PySem PySem.W PySem.Calls PyProof.Rows L2
def seA (a0 a1 a2 a3 : Pos) : Arguments := { posonlyargs := [], args := [{ arg := "self", annotation := none, pos := a0 }, { arg := "line", annotation := none, pos := a1 }, { arg := "column", annotation := none, pos := a2 }, { arg := "what", annotation := none, pos := a3 }], vararg := none, kwonlyargs := [], kw_defaults := [], kwarg := none, defaults := [] }
def seB (b0 b1 b2 b3 b4 b5 b6 b7 b8 b9 b10 b11 b12 b13 b14 c0 c1 c2 c3 c4 c5 c6 c7 c8 c9 c10 c11 : Pos) : List Stmt :=
  [.Expr (.Call (.Attribute (.Call (.Name "super" b0) [] [] b1) "__init__" b2) [.JoinedStr [.Constant (.str "line ") 0 b3, .FormattedValue (.Name "line" b4) (-1) none b5, .Constant (.str ", column ") 0 b6, .FormattedValue (.Name "column" b7) (-1) none b8, .Constant (.str ": ") 0 b9, .FormattedValue (.Name "what" b10) (-1) none b11] b12] [] b13) b14,
   .Assign [.Attribute (.Name "self" c0) "line" c1] (.Name "line" c2) c3,
   .Assign [.Attribute (.Name "self" c4) "column" c5] (.Name "column" c6) c7,
   .Assign [.Attribute (.Name "self" c8) "what" c9] (.Name "what" c10) c11]
def seS : Scope := { kind := .function, names := [(PySem.Str.ofString "self", .local), (PySem.Str.ofString "line", .local), (PySem.Str.ofString "column", .local), (PySem.Str.ofString "what", .local), (PySem.Str.ofString "__class__", .free), (PySem.Str.ofString "super", .globalImplicit)], isGenerator := false, isCoroutine := false, more := [] }
structure SeTxt (P : Program) (K : Frag) (C fI : Addr) (fd : FuncData) : Prop where
  oex : OexC K C
  ini : excInitIn K C [.type "ValueError", .type "Exception", .type "BaseException", .type "object"] "ValueError.__new__" = true
  n1 : findIn K (.ref C) "line" = some none
  n2 : findIn K (.ref C) "column" = some none
  n3 : findIn K (.ref C) "what" = some none
  sup : ks_superIn K C C "__init__" = some (some (.builtin "ValueError.__init__"))
  sVE : subIn K (.ref C) (.type "ValueError") = some true
  tpa : nsIn K cStatics "thirdparty.any" = some none
  mro : mroIn K C (.ref C) = some true
  noS : nsIn K mainGlobals "super" = some none
  top : (P.main.scope.names.lookup ("super" : Str)).isSome = false
  fn : ∃ (oc : Value) (od : Option Addr) (doc pm : Value) (an : Option Addr) (ct : Value) (osl : Array (Option Value)) (cc cda : Addr) (q : Str) (a0 a1 a2 a3 b0 b1 b2 b3 b4 b5 b6 b7 b8 b9 b10 b11 b12 b13 b14 c0 c1 c2 c3 c4 c5 c6 c7 c8 c9 c10 c11 : Pos),
    fd = ksFn "__init__" q (seA a0 a1 a2 a3) (seB b0 b1 b2 b3 b4 b5 b6 b7 b8 b9 b10 b11 b12 b13 b14 c0 c1 c2 c3 c4 c5 c6 c7 c8 c9 c10 c11) seS .none .none doc pm an (.ref cda) ct cc ∧ K.lookup fI = some ⟨oc, od, .func fd, osl⟩ ∧ codeIn K (.ref cda) q = true ∧ (b2.endLine == b13.line) = true ∧
      (∃ (ccl : Value) (cdd : Option Addr) (vs : Array Value) (ccs : Array (Option Value)) (file : Str) (tf : Tok), K.lookup cda = some ⟨ccl, cdd, .fields vs, ccs⟩ ∧ vs[2]? = some (.str file tf) ∧ ((P.main.file : Str) == file) = true) ∧
      ∃ (cl : Value) (cld : Option Addr) (csl : Array (Option Value)), K.lookup cc = some ⟨cl, cld, .cell (some (.ref C)), csl⟩
section
variable {P : Program} {w : World} {A : Around} {R : Result → Shared → Prop} {s : Shared} {K : Frag} {mg mb : Str → Option Value} {C fI x t0 : Addr} {l c : Int} {tl tc : Tok} {y : Str} {tk : Tok}
end
section
variable {X : Cx} {L : Lp} {Γ Γ1 : Ctx}
theorem se_binds {K : Frag} {q : Str} {a0 a1 a2 a3 : Pos} {body : List Stmt} {sc : Scope} {doc pm cdv ct : Value} {an : Option Addr} {cc : Addr} : Binds K (ksFn "__init__" q (seA a0 a1 a2 a3) body sc .none .none doc pm an cdv ct cc) ["self", "line", "column", "what"] [] :=
  fun s us _ hl => match us, hl with | [_, _, _, _], _ => .of_eq (by first | rfl | with_unfolding_all rfl)
theorem SeTxt.binds {P : Program} {K : Frag} {C fI : Addr} {fd : FuncData} (T : SeTxt P K C fI fd) : Binds K fd ["self", "line", "column", "what"] [] := by
  obtain ⟨_, _, _, _, _, _, _, _, _, _, _, _, _, _, _, _, _, _, _, _, _, _, _, _, _, _, _, _, _, _, _, _, _, _, _, _, _, _, _, _, _, rfl, _⟩ := T.fn
  exact se_binds
structure SeAll (P : Program) (K : Frag) (mg : Str → Option Value) (nm : Str) where
  C : Addr
  fI : Addr
  fd : FuncData
  T : SeTxt P K C fI fd
  iC : findIn K (.ref C) "__init__" = some (some (.ref fI))
  tI : typeIn K (.ref fI) = some (.type "function")
  hns : nsIn K mainGlobals nm = some (some (.ref C))
  m : mg nm = some (.ref C)
  te : exmOne K (.ref C) (.ref C) = some true
end
end Pf

set_option Elab.async false
set_option linter.all false
set_option maxRecDepth 100000
set_option maxHeartbeats 4000000
namespace Pf
open PySem PySem.Spec PyProof.Rows L2
section
variable {X : Cx} {L : Lp} {Γ Γ1 Γ2 Γx Γ' : Ctx} {K : PySem.W.Frag} {F F' H H' : Hp}
variable {i : Nat} {a : Addr} {cls : Value} {dd : Option Addr}
def STe (X : Cx) (i : Nat) (a : Addr) (cls : Value) (dd : Option Addr) (Γ : Ctx) (e : Expr) (f : TF) (Γ' : Ctx) : Prop :=
  ∃ t : TT, PT X e t ∧ ∀ (B : Bs) (σ : L2.St) (env : List D) (F H : Hp) (b : Bool) (Q : Bool → Hp → Prop), Rel X.K B Γ σ env F H → Kx X.K i a cls dd σ env F → f env = some b → (∀ F' H', Same F F' → Same H H' → Rel X.K B Γ' σ env F' H' → Q b H') → t σ H Q
def STwe (X : Cx) (i : Nat) (a : Addr) (cls : Value) (dd : Option Addr) (Γ : Ctx) (e : Expr) (f : TF) (Γ' : Ctx) : Prop :=
  ∃ t : TT, L2.PW X e t ∧ ∀ (B : Bs) (σ : L2.St) (env : List D) (F H : Hp) (b : Bool) (Q : Bool → Hp → Prop), Rel X.K B Γ σ env F H → Kx X.K i a cls dd σ env F → f env = some b → (∀ F' H', Same F F' → Same H H' → Rel X.K B Γ' σ env F' H' → Q b H') → t σ H Q
theorem STwe.ts {e : Expr} {f : TF} (h : STwe X i a cls dd Γ e f Γ') : STe X i a cls dd Γ e f Γ' := by
  obtain ⟨t, p, q⟩ := h
  exact ⟨t, p.pt, q⟩
def isTup : D → Bool
  | .tuple _ => true
  | _ => false
theorem RelT.up1 {B : Bs} {σ : L2.St} {env : List D} {d : D} {v : V} (r : RelT K B Γ σ env F H 0 d v) (h : isTup d = true) : RelT K B Γ σ env F H 1 d v := by
  obtain ⟨f, g, s, o, k⟩ := r
  cases d with
  | tuple ds => exact ⟨f, g, s, o, k⟩
  | _ => cases h
theorem eTup_is {fs : AF} {env : List D} {d : D} (h : eTup fs env = some d) : isTup d = true := by
  unfold eTup at h
  obtain ⟨ds, _, h⟩ := Option.bind_eq_some_iff.mp h
  split at h
  · cases h; rfl
  · cases h
theorem se_tup1 {e : Expr} {fs : AF} (h : SE X Γ e (eTup fs) 0 Γ1) : SE X Γ e (eTup fs) 1 Γ1 := by
  obtain ⟨t, p, q⟩ := h
  exact ⟨t, p, fun B σ env F H d Q r e k => q B σ env F H d Q r e fun v F' H' s1 t1 r1 => k v F' H' s1 t1 (r1.up1 (eTup_is e))⟩
theorem se_glS {x : Str} {z : Str} {pos : Pos} (h : ∃ t, X.mg x = some (Value.str z t)) (hg : Gl X x) (hd : (x == ("__debug__" : Str)) = false := by decide) : SE X Γ (.Name x pos) (eC (.str z)) 0 Γ := by
  obtain ⟨t, hm⟩ := h
  exact se_glob (v := .str z) hg hm ⟨t, rfl⟩ (fun _ => .str z) hd
def aGl (ds : List D) : AF := fun _ => some ds
theorem si_glT {x : Str} {ds : List D} {tg : Expr} {pos : Pos} (T : GlT X.K X.mg x ds) (hg : Gl X x) (hdb : (x == ("__debug__" : Str)) = false := by decide) : SI X Γ tg (.Name x pos) (aGl ds) Γ := by
  obtain ⟨g, xs, hmg, hs, hf, hr⟩ := T.ex
  refine ⟨_, pi_tup (pe_glob (v := .ref g) hg hmg rfl hdb), fun B σ env F H ds' R r e k => ?_⟩
  cases e
  refine ⟨g, rfl, ⟨xs, hs H⟩, k _ F H (Same.refl _) (Same.refl _) r ⟨fun n F1 H1 e1 e2 hn => ?_, fun n F1 H1 x H2 e1 e2 hy d hd => ?_, fun n F1 H1 e1 e2 hn => ?_⟩⟩
  · have hx : n < xs.length := by rw [(hr F).length]; exact hn
    exact ⟨xs, xs[n], hs _, List.getElem?_eq_getElem hx⟩
  · obtain ⟨hH, hx⟩ := hy
    subst hH
    obtain ⟨v, q1, q2⟩ := (hr F1).get hd
    have q3 := hx xs (hs _)
    rw [q1] at q3
    cases q3
    exact ⟨F1, got_val e2 q2⟩
  · exact ⟨xs, hs _, by rw [(hr F).length]; exact hn⟩
end
end Pf

set_option Elab.async false
set_option linter.all false
set_option maxRecDepth 100000
set_option maxHeartbeats 4000000
namespace Pf
open PySem PySem.Spec PyProof.Rows L2
inductive GEnt : List DictEntry → List (Str × Int) → Prop
  | nil : GEnt [] []
  | cons {h : Int} {t t' : Tok} {s : Str} {i : Int} {r : List DictEntry} {l : List (Str × Int)} : GEnt r l → GEnt (⟨h, .str s t, .int i t'⟩ :: r) ((s, i) :: l)
structure GlD (K : PySem.W.Frag) (w : World) (mg : Str → Option Value) (x : Str) (l : List (Str × Int)) : Prop where
  ex : ∃ (d : Addr) (es : Array DictEntry) (n : Nat), mg x = some (.ref d) ∧ KDict K w d es n ∧ GEnt es.toList l
def lookS : List (Str × Int) → Str → Option Int
  | [], _ => none
  | (s, i) :: l, k => if s = k then some i else lookS l k
theorem gent_find {k : Str} : ∀ {es : List DictEntry} {l : List (Str × Int)}, GEnt es l → (∀ i, lookS l k = some i → ∃ t, (es.find? fun e => Value.isStrOf k e.key).map (·.val) = some (Value.int i t)) ∧ (lookS l k = none → (es.find? fun e => Value.isStrOf k e.key).map (·.val) = none)
  | _, _, .nil => ⟨fun i h => (nomatch h), fun _ => rfl⟩
  | _, _, .cons (h := h) (t := t) (t' := t') (s := s) (i := i) (r := r) (l := l) g => by
    have ih := gent_find (k := k) g
    by_cases c : s = k
    · have e : (fun e : DictEntry => Value.isStrOf k e.key) ⟨h, Value.str s t, Value.int i t'⟩ = true := by show (s == k) = true; rw [c]; exact beq_self_eq_true k
      refine ⟨fun j hj => ⟨t', ?_⟩, fun hn => ?_⟩
      · have hj : (if s = k then some i else lookS l k) = some j := hj
        rw [if_pos c] at hj
        cases hj
        rw [List.find?_cons_of_pos (p := fun e : DictEntry => Value.isStrOf k e.key) e]
        rfl
      · have hn : (if s = k then some i else lookS l k) = none := hn
        rw [if_pos c] at hn
        cases hn
    · have e : ¬ (fun e : DictEntry => Value.isStrOf k e.key) ⟨h, Value.str s t, Value.int i t'⟩ = true := by show ¬ (s == k) = true; rw [beq_iff_eq]; exact c
      have el : lookS ((s, i) :: l) k = lookS l k := if_neg c
      rw [List.find?_cons_of_neg (p := fun e : DictEntry => Value.isStrOf k e.key) e, el]
      exact ih
def eGetG (l : List (Str × Int)) (fa fb : EF) : EF := fun env => (fa env).bind fun k => (fb env).bind fun d => match k with
  | .str z => some (match lookS l z with | some i => .int i | none => d)
  | _ => none
section
variable {X : Cx} {Γ Γ1 Γ2 : Ctx}
theorem findBy_list {es : Array DictEntry} {k : Str} : findBy Value.isStrOf es k = (es.toList.find? fun e => Value.isStrOf k e.key).map (·.val) := by
  unfold findBy
  rw [← Array.find?_toList]
theorem pe_getG {d : Addr} {es : Array DictEntry} {n : Nat} {l : List (Str × Int)} {o e f : Expr} {apos cpos : Pos} {td ty tx : TE} (D : KDict X.K X.w d es n) (G : GEnt es.toList l) (ho : PE X o td) (he : PE X e ty) (hf : PE X f tx) (m : M2 X o "get" apos e f cpos) :
    PE X (.Call (.Attribute o "get" apos) [e, f] [] cpos) (fun σ H Q => td σ H fun x H1 => x = .ref d ∧ ty σ H1 fun y H2 => tx σ H2 fun z H3 => ∃ (k : Str), y = .str k ∧ Q (match lookS l k with | some i => V.int i | none => z) H3) := by
  refine ⟨fun pins s σ H Q I h => ?_⟩
  refine wpAny_Call_method m.base m.few m.line PySem.F.plainAttrs_dict PySem.F.slot_dict_get PySem.F.type_dict_get (thn (ho.run pins s σ H _ I h) fun u s1 ⟨v1, H1, I1, r1, q⟩ => ?_)
  obtain ⟨rfl, q⟩ := q
  have r1 : u = Value.ref d := r1
  subst r1
  have hob := I1.kIn _ _ D.at_
  refine ⟨⟨_, hob, rfl⟩, fun b eb => by cases eb; exact ⟨_, hob, rfl⟩, ?_⟩
  rw [m.trees]
  refine wpAny_dict_get2 (knd := strKind X.prog X.w) D.low (thn (he.run pins s1 σ H1 _ I1 q) fun uk s2 ⟨v2, H2, I2, r2, q2⟩ => thn (hf.run pins s2 σ H2 _ I2 q2) fun ud s3 ⟨v3, H3, I3, r3, q3⟩ => ?_)
  obtain ⟨k, rfl, q3⟩ := q3
  obtain ⟨tk, rfl⟩ := r2
  refine ⟨k, _, strKind_is _ _ _ _, PySem.W.mapOf_K I3.kIn D.at_ D.lit, ?_⟩
  obtain ⟨g1, g2⟩ := gent_find (k := k) G
  rw [findBy_list]
  cases c : lookS l k with
  | some i =>
    obtain ⟨t, e⟩ := g1 i c
    rw [c] at q3
    rw [e]
    exact ⟨.int i, H3, I3.tok _, ⟨t, rfl⟩, q3⟩
  | none =>
    rw [c] at q3
    rw [g2 c]
    exact ⟨v3, H3, I3.tok _, r3, q3⟩
theorem se_getG {x : Str} {l : List (Str × Int)} {a b : Expr} {apos pos xp : Pos} {fa fb : EF} {na : Nat} (T : GlD X.K X.w X.mg x l) (hg : Gl X x) (ha : SB X Γ a fa na Γ1) (hb : SE X Γ1 b fb 0 Γ2) (hdb : (x == ("__debug__" : Str)) = false := by decide)
    (m1 : attributeBase (.Name x xp) "get" X.env (eval (.Name x xp) X.env) = eval (.Name x xp) X.env := by rfl)
    (m2 : ((((PySem.backTo pos (PySem.starEach [a, b] X.env)).all fun x => !x.1) && (PySem.backToKw pos (PySem.keywordEach [] X.env)).all fun x => x.1.isSome) && decide (([a, b].length + ([] : List Keyword).length + if ([] : List Keyword).isEmpty = true then 0 else 1) < 30)) = true := by rfl)
    (m3 : (apos.endLine == pos.line) = true := by rfl)
    (m4 : PySem.backTo pos (PySem.starEach [a, b] X.env) = [(false, PySem.eval a X.env), (false, PySem.eval b X.env)] := by rfl) :
    SE X Γ (.Call (.Attribute (.Name x xp) "get" apos) [a, b] [] pos) (eGetG l fa fb) 0 Γ2 := by
  obtain ⟨ta, pa, qa⟩ := ha
  obtain ⟨tb, pb, qb⟩ := hb
  obtain ⟨d, es, n, hm, D, G⟩ := T.ex
  refine ⟨_, pe_getG D G (pe_glob (v := .ref d) hg hm rfl hdb) pa pb ⟨m1, m2, m3, m4⟩, fun B σ env F H dd Q rr e k => ?_⟩
  obtain ⟨dk, hk, e⟩ := Option.bind_eq_some_iff.mp e
  obtain ⟨dv, hv, e⟩ := Option.bind_eq_some_iff.mp e
  refine ⟨rfl, qa B σ env F H dk _ rr hk fun v F1 H1 s1 t1 r1 b1 => qb B σ env F1 H1 dv _ r1 hv fun u F2 H2 s2 t2 r2 => ?_⟩
  cases dk with
  | str z =>
    have e : some (match lookS l z with | some i => PyData.int i | none => dv) = some dd := e
    have ev : v = .str z := (b1.rp r1.fh na).vstr
    refine ⟨z, ev, ?_⟩
    generalize lookS l z = c at e ⊢
    cases c with
    | some i => cases e; exact k _ F2 H2 (s1.trans s2) (t1.trans t2) (r2.rel.t0 (.int i))
    | none => cases e; exact k _ F2 H2 (s1.trans s2) (t1.trans t2) r2
  | _ => cases e
end
end Pf

set_option Elab.async false
set_option linter.all false
set_option maxRecDepth 100000
set_option maxHeartbeats 4000000
namespace Pf
open PySem PySem.Spec PyProof.Rows L2
def mkS (s d : D) : D := .dict [(.bool false, s), (.bool false, d)]
def unS : D → Option (D × D)
  | .dict [(.bool false, s), (.bool false, d)] => some (s, d)
  | _ => none
theorem unS_mk {s d : D} : unS (mkS s d) = some (s, d) := rfl
theorem unS_some {x s d : D} (h : unS x = some (s, d)) : x = mkS s d := by
  unfold unS at h
  split at h
  · cases h; rfl
  · cases h
theorem mkS_inj {s d s' d' : D} (h : mkS s d = mkS s' d') : s = s' ∧ d = d' := by
  simp [mkS] at h
  exact h
def hid (H : Hp) (f : Fp) : Hp := fun a => if 0 < f a then none else H a
theorem hid_in {H : Hp} {f : Fp} {a : Addr} {o : HO} (h : hid H f a = some o) : H a = some o ∧ ¬ 0 < f a := by
  unfold hid at h
  split at h
  · cases h
  · rename_i c
    exact ⟨h, c⟩
theorem hid_none {H : Hp} {f : Fp} {a : Addr} (h : hid H f a = none) : 0 < f a ∨ (¬ 0 < f a ∧ H a = none) := by
  unfold hid at h
  split at h
  · rename_i c; exact .inl c
  · rename_i c; exact .inr ⟨c, h⟩
theorem hid_same {H : Hp} {f : Fp} (t : TB H) : Same (hid H f) H := ⟨fun a o e _ => (hid_in e).1, fun a e => by
  unfold hid
  split
  · rfl
  · exact e, fun _ => t⟩
theorem set_self {α : Type} : ∀ {xs : List α} {i : Nat} {x : α}, xs[i]? = some x → xs.set i x = xs
  | [], _, _, h => by simp at h
  | a :: xs, 0, x, h => by simp at h; simp [h]
  | a :: xs, i + 1, x, h => by simp at h; simp [set_self h]
section
variable {K : PySem.W.Frag} {B : Bs} {Γ Γ' : Ctx} {σ : L2.St} {env : List D} {F H F' H' : Hp}
theorem ok_lent {f1 : Fp} (e : Sub F H) (h1 : ∀ a, f1 a ≤ 1) : Ok ⟨hid H f1, F⟩ F H f1 := ⟨e, hid_same e.th, Same.refl _, fun _ _ q => .inl q, h1, fun a ha => by
  show hid H f1 a = none
  unfold hid
  rw [if_pos ha]⟩
theorem Rel.lend (r : Rel K B Γ σ env F H) {i δ : Nat} (hi : Γ[i]? = some (some δ)) : ∃ v0 s f1, σ[i]? = some (some v0) ∧ env[i]? = some s ∧ Own K F H δ s v0 f1 ∧ (∀ a, f1 a ≤ 1) ∧
    ∀ F' H' s' n d v g1 g2, Own K F' H' n d v g1 → Own K F' H' δ s' v0 g2 → Ok ⟨hid H f1, F⟩ F' H' (fun a => g1 a + g2 a) → Same F F' ∧ RelT K B Γ σ (env.set i s') F' H' n d v := by
  obtain ⟨f, sl, k⟩ := r
  have th : ∀ {a : Addr}, 0 < f a → F a = none ∧ H a ≠ none ∧ (∀ xs, H a ≠ some (.tup xs)) ∧ ∀ o, H a = some o → NT o ∧ ∀ q, o ≠ LamX.CodeO a q := fun ha => sl.there ha
  obtain ⟨v0, s, f1, f2, h1, h2, h3, h4, h5⟩ := sl.focus hi
  refine ⟨v0, s, f1, h1, h2, h3, fun a => by have := k.one a; have := h4 a; omega, fun F' H' s' n d v g1 g2 o1 o2 q => ⟨q.f0, ?_⟩⟩
  have bh : ∀ a, 0 < f1 a → B.H0 a = none := fun a ha => k.fr a (by have := h4 a; omega)
  have nz : ∀ a, 0 < f2 a → ¬ 0 < f1 a := fun a ha c => by have := k.one a; have := h4 a; omega
  have sB : Same B.H0 (hid H f1) := ⟨fun a o e n => by
    unfold hid
    rw [if_neg fun c => by rw [bh a c] at e; cases e]
    exact k.h0.st a o e n, fun a e => by
    rcases hid_none e with c | ⟨_, c⟩
    · exact bh a c
    · exact k.h0.dom a c, fun _ => tb_of k.fh.th (fun p hp ps e => by
        unfold hid
        by_cases c : 0 < f1 p.1
        · exact absurd rfl (((th (a := p.1) (by have := h4 p.1; omega)).2.2.2 _ e).1 ps)
        · rw [if_neg c]; exact e) fun a q' e => by
        unfold hid
        by_cases c : 0 < f1 a
        · exact absurd rfl (((th (a := a) (by have := h4 a; omega)).2.2.2 _ e).2 q')
        · rw [if_neg c]; exact e⟩
  have back : ∀ a, 0 < f2 a → F' a = F a ∧ H' a = H a := fun a ha => by
    obtain ⟨n1, n2, n3, n4⟩ := th (a := a) (by have := h4 a; omega)
    have c := nz a ha
    have eh : hid H f1 a = H a := if_neg c
    refine ⟨?_, ?_⟩
    · rw [n1]
      cases e : F' a with
      | none => rfl
      | some u =>
        rcases q.fn a u e with z | z | ⟨z, xs, rfl⟩ | ⟨ps, z⟩
        · exact n1 ▸ z.symm
        · exact absurd (eh ▸ z) n2
        · exact absurd (eh ▸ z) (n3 xs)
        · exact absurd rfl ((n4 _ (eh ▸ z)).1 ps)
    · cases e : H a with
      | none => exact absurd e n2
      | some u => exact q.h0.fn a u (eh.trans e) (n4 u e).1
  obtain ⟨sl2, sl3⟩ := h5 F' H' q.f0 back
  have sl4 := (sl3 v0 s').2 δ g2 o2
  rw [set_self h1, set_self hi] at sl4
  refine ⟨fun b => g2 b + f2 b, g1, sl4, o1, ⟨q.fh, sB.trans q.h0, k.f0.trans q.f0, fun a u hu => ?_, fun a => ?_, fun a ha => ?_⟩⟩
  · have hidB : hid H f1 a = none → B.H0 a = none := fun z => sB.dom a z
    have inB : ∀ o, hid H f1 a = some o → B.H0 a = none ∨ (B.H0 a = some o ∧ NT o) ∨ ∃ ps, B.H0 a = some (.tbl ps) := fun o z => by
      cases e : B.H0 a with
      | none => exact .inl rfl
      | some u2 =>
        by_cases n : NT u2
        · have z2 := (sB.st a u2 e n).symm.trans z
          cases z2
          exact .inr (.inl ⟨rfl, n⟩)
        · exact .inr (.inr (nt_not n))
    rcases q.fn a u hu with z | z | ⟨z, xs, rfl⟩ | ⟨ps, z⟩
    · exact k.fn a u z
    · exact .inr (.inl (hidB z))
    · rcases inB _ z with c | ⟨c, _⟩ | c
      · exact .inr (.inl c)
      · exact .inr (.inr (.inl ⟨c, xs, rfl⟩))
      · exact .inr (.inr (.inr c))
    · rcases inB _ z with c | ⟨c, n⟩ | c
      · exact .inr (.inl c)
      · exact absurd rfl (n ps)
      · exact .inr (.inr (.inr c))
  · have q1 := q.one a
    show g1 a + (g2 a + f2 a) ≤ 1
    by_cases c : 0 < f2 a
    · have n2 := (th (a := a) (by have := h4 a; omega)).2.1
      have eh : hid H f1 a = H a := if_neg (nz a c)
      have z : ¬ 0 < g1 a + g2 a := fun c2 => n2 (eh ▸ q.fr a c2)
      have := k.one a
      have := h4 a
      omega
    · omega
  · have ha : 0 < g1 a + (g2 a + f2 a) := ha
    by_cases c : 0 < f2 a
    · exact k.fr a (by have := h4 a; omega)
    · exact sB.dom a (q.fr a (by show 0 < g1 a + g2 a; omega))
theorem RelT.lent {n : Nat} {d : D} {v v0 : V} {s : D} {j δ : Nat} (r : RelT K B Γ σ env F H n d v) (hj : Γ[j]? = some (some δ)) (h0 : σ[j]? = some (some v0)) (he : env[j]? = some s) :
    ∃ g1 g2, Own K F H n d v g1 ∧ Own K F H δ s v0 g2 ∧ Ok B F H (fun a => g1 a + g2 a) := by
  obtain ⟨f, g, sl, o, k⟩ := r
  obtain ⟨v1, s1, f1, f2, h1, h2, h3, h4, _⟩ := sl.focus hj
  rw [h0] at h1
  cases h1
  rw [he] at h2
  cases h2
  exact ⟨g, f1, o, h3, k.less fun a => by have := h4 a; show g a + f1 a ≤ g a + f a; omega⟩
theorem Rel.lent {v0 : V} {s : D} {j δ : Nat} (r : Rel K B Γ σ env F H) (hj : Γ[j]? = some (some δ)) (h0 : σ[j]? = some (some v0)) (he : env[j]? = some s) :
    ∃ g2, Own K F H δ s v0 g2 ∧ Ok B F H g2 := by
  obtain ⟨f, sl, k⟩ := r
  obtain ⟨v1, s1, f1, f2, h1, h2, h3, h4, _⟩ := sl.focus hj
  rw [h0] at h1
  cases h1
  rw [he] at h2
  cases h2
  exact ⟨f1, h3, k.less fun a => by have := h4 a; omega⟩
end
def PureS (K : PySem.W.Frag) (δ m n : Nat) (g : List D → Option D) : Sp := fun vs H Q E => ∃ F v0 us s ds r f1, vs = v0 :: us ∧ Sub F H ∧ us.length = m ∧ RpAll K F us ds ∧ Own K F H δ s v0 f1 ∧ (∀ a, f1 a ≤ 1) ∧ g (s :: ds) = some r ∧
  ∀ s' d, r = mkS s' d → (∀ v F' H' g1 g2, Own K F' H' n d v g1 → Own K F' H' δ s' v0 g2 → Ok ⟨hid H f1, F⟩ F' H' (fun a => g1 a + g2 a) → Q v H') ∧
    ∀ x, d = mkX x → ∀ c dd F' H' g2, Own K F' H' δ s' v0 g2 → Ok ⟨hid H f1, F⟩ F' H' g2 → ExIs K F' c dd x → E c dd H'
abbrev WV := List (Nat × V)
def Stay (W : WV) (σ : L2.St) : Prop := ∀ p ∈ W, σ[p.1]? = some (some p.2)
def SEM (X : Cx) (L : Lp) (W : WV) (j : Nat) (Γ : Ctx) (e : Expr) (f : EF) (n : Nat) (Γ' : Ctx) : Prop :=
  ∃ t : TE, PE X e t ∧ ∀ (B : Bs) (σ : L2.St) (env : List D) (F H : Hp) (r : D) (Q : VK), Rel X.K B Γ σ env F H → Stay W σ → f env = some r →
    (∀ s' d, r = mkS s' d → (∀ v F' H', Same F F' → RelT X.K B Γ' σ (env.set j s') F' H' n d v → Q v H') ∧
      ∀ x, d = mkX x → ∀ c dd F' H', Same F F' → Rel X.K B Γ' σ (env.set j s') F' H' → ExIs X.K F' c dd x → L.wx c dd σ H') → t σ H Q
abbrev TM := List D → Option (Bool × List D)
def STM (X : Cx) (W : WV) (Γ : Ctx) (e : Expr) (f : TM) (Γ' : Ctx) : Prop :=
  ∃ t : TT, PT X e t ∧ ∀ (B : Bs) (σ : L2.St) (env env' : List D) (F H : Hp) (b : Bool) (Q : Bool → Hp → Prop), Rel X.K B Γ σ env F H → Stay W σ → f env = some (b, env') →
    (∀ F' H', Same F F' → Rel X.K B Γ' σ env' F' H' → Q b H') → t σ H Q
def PostJ (K : PySem.W.Frag) (B : Bs) (L : Lp) (W : WV) (δ j : Nat) (v0 : V) (Γ' : Ctx) (F : Hp) (E : Ends) : Out → Prop
  | .nx env => ∀ σ F' H', Same F F' → Rel K B Γ' σ env F' H' → σ[j]? = some (some v0) → Stay W σ → E.nx σ H'
  | .rt r => ∀ s d, r = mkS s d → (∀ v F' H', Same F F' → (∃ g1 g2, Own K F' H' L.ρ d v g1 ∧ Own K F' H' δ s v0 g2 ∧ Ok B F' H' (fun a => g1 a + g2 a)) → E.rt v H') ∧
      ∀ x, d = mkX x → ∀ c dd σ' F' H', Same F F' → (∃ g2, Own K F' H' δ s v0 g2 ∧ Ok B F' H' g2) → ExIs K F' c dd x → L.wx c dd σ' H'
  | .bk env => ∀ σ F' H', Same F F' → Rel K B L.bk σ env F' H' → σ[j]? = some (some v0) → Stay W σ → E.bk σ H'
  | .ct env => ∀ σ F' H', Same F F' → Rel K B L.ct σ env F' H' → σ[j]? = some (some v0) → Stay W σ → E.ct σ H'
def S1J (X : Cx) (L : Lp) (W : WV) (δ j : Nat) (Γ : Ctx) (st : Stmt) (f : SF) (Γ' : Ctx) : Prop :=
  ∃ t : TS, PS X st t ∧ ∀ (B : Bs) (σ : L2.St) (env : List D) (F H : Hp) (v0 : V) (o : Out) (E : Ends), Rel X.K B Γ σ env F H → σ[j]? = some (some v0) → Stay W σ → f env = some o → PostJ X.K B L W δ j v0 Γ' F E o → t E σ H
def SSJ (X : Cx) (L : Lp) (W : WV) (δ j : Nat) (Γ : Ctx) (sts : List Stmt) (f : SF) (Γ' : Ctx) : Prop :=
  ∃ t : TS, PSs X sts t ∧ ∀ (B : Bs) (σ : L2.St) (env : List D) (F H : Hp) (v0 : V) (o : Out) (E : Ends), Rel X.K B Γ σ env F H → σ[j]? = some (some v0) → Stay W σ → f env = some o → PostJ X.K B L W δ j v0 Γ' F E o → t E σ H
section
variable {X : Cx} {L : Lp} {W : WV} {δ j : Nat} {Γ Γ1 Γ2 Γ' : Ctx} {K : PySem.W.Frag} {F F' H H' : Hp} {B : Bs} {v0 : V} {E : Ends} {o : Out}
theorem PostJ.up (e : Same F F') (h : PostJ K B L W δ j v0 Γ F E o) : PostJ K B L W δ j v0 Γ F' E o := by
  cases o with
  | nx env => exact fun σ F2 H2 s r => h σ F2 H2 (e.trans s) r
  | rt d => exact fun s d hd => ⟨fun v F2 H2 s1 r => (h s d hd).1 v F2 H2 (e.trans s1) r, fun x ex c dd σ' F2 H2 s1 r => (h s d hd).2 x ex c dd σ' F2 H2 (e.trans s1) r⟩
  | bk env => exact fun σ F2 H2 s r => h σ F2 H2 (e.trans s) r
  | ct env => exact fun σ F2 H2 s r => h σ F2 H2 (e.trans s) r
theorem PostJ.down (l : LeC Γ' Γ = true) (h : PostJ K B L W δ j v0 Γ' F E o) : PostJ K B L W δ j v0 Γ F E o := by
  cases o with
  | nx env =>
    intro σ F2 H2 s r h0 hw
    obtain ⟨F3, u, r3⟩ := r.down l
    exact h σ F3 H2 (s.trans u) r3 h0 hw
  | rt d => exact h
  | bk env => exact h
  | ct env => exact h
theorem SSJ.sub {sts : List Stmt} {f : SF} (h : SSJ X L W δ j Γ sts f Γ1) (l : LeC Γ' Γ1 = true) : SSJ X L W δ j Γ sts f Γ' := by
  obtain ⟨t, p, q⟩ := h
  exact ⟨t, p, fun B σ env F H v0 o E r h0 hw e k => q B σ env F H v0 o E r h0 hw e (k.down l)⟩
theorem S1J.sub {st : Stmt} {f : SF} (h : S1J X L W δ j Γ st f Γ1) (l : LeC Γ' Γ1 = true) : S1J X L W δ j Γ st f Γ' := by
  obtain ⟨t, p, q⟩ := h
  exact ⟨t, p, fun B σ env F H v0 o E r h0 hw e k => q B σ env F H v0 o E r h0 hw e (k.down l)⟩
theorem S1J.pre {st : Stmt} {f : SF} (l : LeC Γ1 Γ = true) (h : S1J X L W δ j Γ1 st f Γ') : S1J X L W δ j Γ st f Γ' := by
  obtain ⟨t, p, q⟩ := h
  refine ⟨t, p, fun B σ env F H v0 o E r h0 hw e k => ?_⟩
  obtain ⟨F2, u, r2⟩ := r.down l
  exact q B σ env F2 H v0 o E r2 h0 hw e (k.up u)
theorem SSJ.pre {sts : List Stmt} {f : SF} (l : LeC Γ1 Γ = true) (h : SSJ X L W δ j Γ1 sts f Γ') : SSJ X L W δ j Γ sts f Γ' := by
  obtain ⟨t, p, q⟩ := h
  refine ⟨t, p, fun B σ env F H v0 o E r h0 hw e k => ?_⟩
  obtain ⟨F2, u, r2⟩ := r.down l
  exact q B σ env F2 H v0 o E r2 h0 hw e (k.up u)
def sNever : SF := fun _ => none
theorem sj_never {st : Stmt} : S1J X L W δ j Γ st sNever Γ' := ⟨fun _ _ _ => False, ⟨fun _ _ _ _ _ _ h => h.elim⟩, fun _ _ _ _ _ _ _ _ _ _ _ e _ => by cases e⟩
def sStay (f : SF) : SF := fun env => (f env).bind fun o => match o with | .nx e => some (.nx e) | .bk e => some (.bk e) | .ct e => some (.ct e) | .rt _ => none
theorem sj_of {st : Stmt} {f : SF} (h : SS X ⟨L.ρ, L.bk, L.ct, j :: W.map (·.1), L.wx⟩ Γ st f Γ') : S1J X L W δ j Γ st (sStay f) Γ' := by
  obtain ⟨t, p, q⟩ := h
  refine ⟨t, p, fun B σ env F H v0 o E r h0 hw e k => ?_⟩
  obtain ⟨o1, h1, e⟩ := Option.bind_eq_some_iff.mp e
  refine q B σ env F H o1 _ r h1 ?_
  have kj : ∀ {σ' : L2.St} {env' : List D}, Kp ⟨L.ρ, L.bk, L.ct, j :: W.map (·.1), L.wx⟩ σ env σ' env' → σ'[j]? = some (some v0) := fun kp => ((kp j (by simp)).1).trans h0
  have kw : ∀ {σ' : L2.St} {env' : List D}, Kp ⟨L.ρ, L.bk, L.ct, j :: W.map (·.1), L.wx⟩ σ env σ' env' → Stay W σ' := fun kp p hp => ((kp p.1 (by simp; exact .inr ⟨p.2, hp⟩)).1).trans (hw p hp)
  cases o1 with
  | nx e' => cases e; exact fun σ2 F2 H2 s r2 kp => k σ2 F2 H2 s r2 (kj kp) (kw kp)
  | rt d => cases e
  | bk e' => cases e; exact fun σ2 F2 H2 s r2 kp => k σ2 F2 H2 s r2 (kj kp) (kw kp)
  | ct e' => cases e; exact fun σ2 F2 H2 s r2 kp => k σ2 F2 H2 s r2 (kj kp) (kw kp)
theorem sj_nil : SSJ X L W δ j Γ [] sSkip Γ := ⟨_, pss_nil, fun B σ env F H v0 o E r h0 hw e k => by
  cases e
  exact k σ F H (Same.refl _) r h0 hw⟩
theorem sj_one {st : Stmt} {f : SF} (h : S1J X L W δ j Γ st f Γ') : SSJ X L W δ j Γ [st] f Γ' := by
  obtain ⟨t, p, q⟩ := h
  exact ⟨t, pss_one p, q⟩
theorem sj_cons {st : Stmt} {rest : List Stmt} {f g : SF} (h : S1J X L W δ j Γ st f Γ1) (hr : SSJ X L W δ j Γ1 rest g Γ') : SSJ X L W δ j Γ (st :: rest) (sSeq f g) Γ' := by
  obtain ⟨t, p, q⟩ := h
  obtain ⟨t2, p2, q2⟩ := hr
  refine ⟨_, pss_cons p p2, fun B σ env F H v0 o E r h0 hw e k => ?_⟩
  obtain ⟨o1, h1, e⟩ := Option.bind_eq_some_iff.mp e
  refine q B σ env F H v0 o1 _ r h0 hw h1 ?_
  cases o1 with
  | nx env' => exact fun σ2 F2 H2 s r2 h2 w2 => q2 B σ2 env' F2 H2 v0 o E r2 h2 w2 e (k.up s)
  | rt d => cases e; exact k
  | bk e' => cases e; exact fun v F2 H2 s r2 => k v F2 H2 s r2
  | ct e' => cases e; exact fun v F2 H2 s r2 => k v F2 H2 s r2
theorem sj_if {c : Expr} {a b : List Stmt} {pos : Pos} {fc : TF} {f g : SF} (hc : STs X Γ c fc Γ1) (ha : SSJ X L W δ j Γ1 a f Γ') (hb : SSJ X L W δ j Γ1 b g Γ') : S1J X L W δ j Γ (.If c a b pos) (sIf fc f g) Γ' := by
  obtain ⟨tc, pc, qc⟩ := hc
  obtain ⟨ta, pa, qa⟩ := ha
  obtain ⟨tb, pb, qb⟩ := hb
  refine ⟨_, ps_if pc pa pb, fun B σ env F H v0 o E r h0 hw e k => ?_⟩
  obtain ⟨b, hx, e⟩ := Option.bind_eq_some_iff.mp e
  refine qc B σ env F H b _ r hx fun F1 H1 s1 t1 r1 => ?_
  cases b with
  | true => exact qa B σ env F1 H1 v0 o E r1 h0 hw (by simpa using e) (k.up s1)
  | false => exact qb B σ env F1 H1 v0 o E r1 h0 hw (by simpa using e) (k.up s1)
def sIfM (c : TM) (f g : SF) : SF := fun env => (c env).bind fun p => if p.1 = true then f p.2 else g p.2
theorem sj_ifM {c : Expr} {a b : List Stmt} {pos : Pos} {fc : TM} {f g : SF} (hc : STM X W Γ c fc Γ1) (ha : SSJ X L W δ j Γ1 a f Γ') (hb : SSJ X L W δ j Γ1 b g Γ') : S1J X L W δ j Γ (.If c a b pos) (sIfM fc f g) Γ' := by
  obtain ⟨tc, pc, qc⟩ := hc
  obtain ⟨ta, pa, qa⟩ := ha
  obtain ⟨tb, pb, qb⟩ := hb
  refine ⟨_, ps_if pc pa pb, fun B σ env F H v0 o E r h0 hw e k => ?_⟩
  obtain ⟨⟨b, env'⟩, hx, e⟩ := Option.bind_eq_some_iff.mp e
  refine qc B σ env env' F H b _ r hw hx fun F1 H1 s1 r1 => ?_
  cases b with
  | true => exact qa B σ env' F1 H1 v0 o E r1 h0 hw (by simpa using e) (k.up s1)
  | false => exact qb B σ env' F1 H1 v0 o E r1 h0 hw (by simpa using e) (k.up s1)
def sRetJ (j : Nat) (f : EF) : SF := fun env => (f env).bind fun d => (env[j]?).bind fun s => some (.rt (mkS s d))
theorem sj_ret {e : Expr} {f : EF} {n : Nat} {pos : Pos} (h : SE X Γ e f n Γ1) (hj : Γ1[j]? = some (some δ) := by rfl) (hn : L.ρ ≤ n := by exact Nat.le_refl _) : S1J X L W δ j Γ (.Return (some e) pos) (sRetJ j f) Γ' := by
  obtain ⟨t, p, q⟩ := h.sub (leC_refl _) hn
  refine ⟨_, ps_ret p, fun B σ env F H v0 o E r h0 hw e k => ?_⟩
  obtain ⟨d, hd, e⟩ := Option.bind_eq_some_iff.mp e
  obtain ⟨s, hs, e⟩ := Option.bind_eq_some_iff.mp e
  cases e
  refine q B σ env F H d _ r hd fun v F2 H2 s1 _ r2 => (k s d rfl).1 v F2 H2 s1 (r2.lent hj h0 hs)
theorem sj_retM {e : Expr} {f : EF} {n : Nat} {pos : Pos} (h : SEM X L W j Γ e f n Γ1) (hj : Γ1[j]? = some (some δ) := by rfl) (hl : j < Γ.length := by decide) (hn : L.ρ = n := by rfl) : S1J X L W δ j Γ (.Return (some e) pos) (sRet f) Γ' := by
  obtain ⟨t, p, q⟩ := h
  refine ⟨_, ps_ret p, fun B σ env F H v0 o E r h0 hw e k => ?_⟩
  obtain ⟨d, hd, e⟩ := Option.bind_eq_some_iff.mp e
  cases e
  have le : j < env.length := by
    obtain ⟨f, sl, _⟩ := id r
    rw [sl.len.2]; exact hl
  refine q B σ env F H d _ r hw hd fun s' d' hd' => ⟨fun v F2 H2 s1 r2 => ?_, fun x ex c dd F2 H2 s1 r2 hx => ?_⟩
  · refine (k s' d' hd').1 v F2 H2 s1 ?_
    rw [hn]
    exact r2.lent hj h0 (by rw [List.getElem?_set_self le])
  · exact (k s' d' hd').2 x ex c dd σ F2 H2 s1 (r2.lent hj h0 (by rw [List.getElem?_set_self le])) hx
def sSetM (j i : Nat) (f : EF) : SF := fun env => (f env).bind fun r => (unS r).bind fun p => match unX p.2 with
  | some x => some (.rt r)
  | none => some (.nx ((env.set j p.1).set i p.2))
theorem nuX {n : Nat} {d : D} {v : V} {σ : L2.St} {env : List D} (r2 : RelT K B Γ σ env F H n d v) : unX d = none := by
  cases hu : unX d with
  | none => rfl
  | some y =>
    obtain ⟨f, g, s, ow, ok⟩ := r2
    rw [unX_some hu] at ow
    exact (noXo ow).elim
theorem set_at {σ : L2.St} {i : Nat} {v : Option V} {j : Nat} {u : Option V} (h : j ≠ i) (e : σ[j]? = some u) : (σ.set i v)[j]? = some u := by
  rw [List.getElem?_set_ne (fun c => h c.symm)]; exact e
theorem sj_setM (i : Nat) {x : Str} {e : Expr} {f : EF} {n : Nat} {pos pos' : Pos} (h : SEM X L W j Γ e f n Γ1) (hN : X.N.Nodup) (hj : Γ1[j]? = some (some δ) := by rfl) (hjl : j < Γ.length := by decide) (hij : j ≠ i := by decide) (hW : i ∉ W.map (·.1) := by first | decide | simp) (hl : i < Γ1.length := by decide) (hi : X.N[i]? = some x := by rfl) (hx : Loc X.env.scope x := by first | exact .inl rfl | exact .inr rfl) (hs : swapsWith e (some (.Name x pos')) pos.line X.env = pure false := by rfl)
    (hf : X.fn x = true ∨ X.env.scope.names.lookup x = some .local := by first | exact .inl rfl | exact .inr rfl) : S1J X L W δ j Γ (.Assign [.Name x pos'] e pos) (sSetM j i f) (Γ1.set i (some n)) := by
  obtain ⟨t, p, q⟩ := h
  refine ⟨_, ps_set hN hi hx p hs hf, fun B σ env F H v0 o E r h0 hw e k => ?_⟩
  obtain ⟨d, hd, e⟩ := Option.bind_eq_some_iff.mp e
  have le : j < env.length := by
    obtain ⟨f, sl, _⟩ := id r
    rw [sl.len.2]; exact hjl
  refine q B σ env F H d _ r hw hd fun s' d' hd' => ⟨fun v F2 H2 s1 r2 => ?_, fun y ey c dd F2 H2 s1 r2 hx => ?_⟩
  · subst hd'
    rw [unS_mk] at e
    simp only [Option.bind_some, nuX r2] at e
    cases e
    exact k _ F2 H2 s1 (r2.put hl) (set_at hij h0) fun p hp => set_at (fun c => hW (List.mem_map.mpr ⟨p, hp, c⟩)) (hw p hp)
  · subst hd'
    subst ey
    rw [unS_mk] at e
    simp only [Option.bind_some, unX_mk] at e
    cases e
    exact (k s' (mkX y) rfl).2 y rfl c dd σ F2 H2 s1 (r2.lent hj h0 (by rw [List.getElem?_set_self le])) hx
def sExprM (j : Nat) (f : EF) : SF := fun env => (f env).bind fun r => (unS r).bind fun p => match unX p.2 with
  | some x => some (.rt r)
  | none => some (.nx (env.set j p.1))
theorem sj_exprM {e : Expr} {f : EF} {n : Nat} {pos : Pos} (h : SEM X L W j Γ e f n Γ1) (hj : Γ1[j]? = some (some δ) := by rfl) (hjl : j < Γ.length := by decide) (hs : swapsWith e none pos.line X.env = pure false := by rfl) : S1J X L W δ j Γ (.Expr e pos) (sExprM j f) Γ1 := by
  obtain ⟨t, p, q⟩ := h
  refine ⟨_, ps_expr p hs, fun B σ env F H v0 o E r h0 hw e k => ?_⟩
  obtain ⟨d, hd, e⟩ := Option.bind_eq_some_iff.mp e
  have le : j < env.length := by
    obtain ⟨f, sl, _⟩ := id r
    rw [sl.len.2]; exact hjl
  refine q B σ env F H d _ r hw hd fun s' d' hd' => ⟨fun v F2 H2 s1 r2 => ?_, fun y ey c dd F2 H2 s1 r2 hx => ?_⟩
  · subst hd'
    rw [unS_mk] at e
    simp only [Option.bind_some, nuX r2] at e
    cases e
    exact k _ F2 H2 s1 r2.rel h0 hw
  · subst hd'
    subst ey
    rw [unS_mk] at e
    simp only [Option.bind_some, unX_mk] at e
    cases e
    exact (k s' (mkX y) rfl).2 y rfl c dd σ F2 H2 s1 (r2.lent hj h0 (by rw [List.getElem?_set_self le])) hx
def sAsgM (j : Nat) (g : D → List D → Option (List D)) (f : EF) : SF := fun env => (f env).bind fun r => (unS r).bind fun p => match unX p.2 with
  | some x => some (.rt r)
  | none => (g p.2 (env.set j p.1)).bind fun env' => some (.nx env')
theorem sj_asgM {tg : Expr} {e : Expr} {f : EF} {g : D → List D → Option (List D)} {ws : List Nat} {pos : Pos} (h : SEM X L W j Γ e f 0 Γ1) (hg : SG X Γ1 tg g ws Γ2) (hj : Γ1[j]? = some (some δ) := by rfl) (hjl : j < Γ.length := by decide) (hij : j ∉ ws := by decide) (hW : ∀ i ∈ ws, i ∉ W.map (·.1) := by first | decide | simp)
    (hs : swapsWithSole [tg] e pos.line X.env = pure false := by rfl) (hws : swappedStores [tg] e X.env = pure none := by rfl) (h1 : (assignEach [tg] X.env).map (·.2) = [assign tg X.env] := by rfl) : S1J X L W δ j Γ (.Assign [tg] e pos) (sAsgM j g f) Γ2 := by
  obtain ⟨t, p, q⟩ := h
  obtain ⟨gk, t2, p2, q2⟩ := hg
  refine ⟨_, ps_asg p p2 hs hws h1, fun B σ env F H v0 o E r h0 hw e k => ?_⟩
  obtain ⟨d, hd, e⟩ := Option.bind_eq_some_iff.mp e
  have le : j < env.length := by
    obtain ⟨f, sl, _⟩ := id r
    rw [sl.len.2]; exact hjl
  refine q B σ env F H d _ r hw hd fun s' d' hd' => ⟨fun v F2 H2 s1 r2 => ?_, fun y ey c dd F2 H2 s1 r2 hx => ?_⟩
  · subst hd'
    rw [unS_mk] at e
    simp only [Option.bind_some, nuX r2] at e
    obtain ⟨env', he, e⟩ := Option.bind_eq_some_iff.mp e
    cases e
    exact q2 B σ _ env' F2 H2 _ _ _ r2.rel r2.bw he fun σ' r3 _ hj' => k σ' F2 H2 s1 r3 ((hj' j hij).trans h0) fun p hp => (hj' p.1 fun c => hW p.1 c (List.mem_map.mpr ⟨p, hp, rfl⟩)).trans (hw p hp)
  · subst hd'
    subst ey
    rw [unS_mk] at e
    simp only [Option.bind_some, unX_mk] at e
    cases e
    exact (k s' (mkX y) rfl).2 y rfl c dd σ F2 H2 s1 (r2.lent hj h0 (by rw [List.getElem?_set_self le])) hx
end
end Pf

set_option Elab.async false
set_option linter.all false
set_option maxRecDepth 100000
set_option maxHeartbeats 4000000
namespace Pf
open PySem PySem.Spec PyProof.Rows L2
section
variable {X : Cx} {L : Lp} {W : WV} {δ j : Nat} {Γ Γ1 Γ2 Γ3 Γ' : Ctx} {K : PySem.W.Frag} {F F' H H' : Hp} {B : Bs} {v0 : V}
def eLS (i : Nat) (g : List D → Option D) (fs : AF) : EF := fun env => (env[i]?).bind fun s => (fs env).bind fun ds => g (s :: ds)
def eMS (i : Nat) (C : Addr) (m : Str) (g : List D → Option D) (fs : AF) : EF := fun env => (env[i]?).bind fun s => if isM C m s = true then (fs env).bind fun ds => g (s :: ds) else none
theorem pureS_of {i m n : Nat} {g : List D → Option D} {σ : L2.St} {env : List D} {vs : List V} {ds : List D} {s r : D} {v : V} {Q : VK} {E : XK} (r1 : Rel K B Γ1 σ env F H) (hi : Γ1[i]? = some (some δ)) (hv : σ[i]? = some (some v)) (hs : env[i]? = some s)
    (hl : vs.length = m) (hr : RpAll K F vs ds) (hg : g (s :: ds) = some r)
    (k : ∀ s' d, r = mkS s' d → (∀ u F' H', Same F F' → RelT K B Γ1 σ (env.set i s') F' H' n d u → Q u H') ∧ ∀ x, d = mkX x → ∀ c dd F' H', Same F F' → Rel K B Γ1 σ (env.set i s') F' H' → ExIs K F' c dd x → E c dd H') :
    PureS K δ m n g (v :: vs) H Q E := by
  obtain ⟨v1, s1, f1, h1, h2, h3, h4, h5⟩ := r1.lend hi
  rw [hv] at h1
  cases h1
  rw [hs] at h2
  cases h2
  refine ⟨F, v, vs, s, ds, r, f1, rfl, r1.fh, hl, hr, h3, h4, hg, fun s' d hd => ⟨fun u F2 H2 g1 g2 o1 o2 ok => ?_, fun x ex c dd F2 H2 g2 o2 ok hx => ?_⟩⟩
  · obtain ⟨s3, r3⟩ := h5 F2 H2 s' n d u g1 g2 o1 o2 ok
    exact (k s' d hd).1 u F2 H2 s3 r3
  · obtain ⟨s3, r3⟩ := h5 F2 H2 s' 0 .none .non (fun _ => 0) g2 ⟨.non, fun _ => rfl⟩ o2 (ok.less fun a => by show 0 + g2 a ≤ g2 a; omega)
    exact (k s' d hd).2 x ex c dd F2 H2 s3 r3.rel hx
theorem sem_call (i : Nat) {k : Nat} {f : Addr} {fd : FuncData} {ps : List Str} {x cx : Str} {p pos cp : Pos} {es : List Expr} {fs : AF} {ns : List Nat} {m n : Nat} {g : List D → Option D}
    (G : FnOk X.prog X.w X.K X.mg X.base CX0 k f fd ps (PureS X.K δ m n g)) (hr : Room k X.A) (hg : Gl X x) (hm : X.mg x = some (.ref f)) (hk : PySem.W.keepIn X.K (.ref f) = true) (hb : Binds X.K fd ps []) (ha : SA X Γ es fs ns Γ1)
    (hi0 : Γ[i]? = some (some δ) := by rfl) (hi : Γ1[i]? = some (some δ) := by rfl) (hN : X.N[i]? = some cx := by rfl) (hv : Vis X.env.scope cx := by first | exact Or.inl rfl | exact Or.inr (Or.inl rfl) | exact Or.inr (Or.inr rfl)) (hd : (cx == ("__debug__" : Str)) = false := by decide) (hcd : (cx == ("__classdict__" : Str)) = false := by decide)
    (hn : (ns.all (· == 0)) = true := by rfl) (hl : ns.length = m := by rfl) (hdb : (x == ("__debug__" : Str)) = false := by decide) (he : starEach (.Name cx cp :: es) X.env = (false, eval (.Name cx cp) X.env) :: starEach es X.env := by rfl) (hpl : (backTo pos (starEach es X.env)).any (·.1) = false := by rfl) :
    SEM X L W i Γ (.Call (.Name x p) (.Name cx cp :: es) [] pos) (eLS i g fs) n Γ1 := by
  obtain ⟨ta, pa, qa⟩ := ha
  refine ⟨_, pe_call (E := fun _ _ _ => True) G hr hg hm hk hb .nil pass0 (pa_cons (pe_var hN hv hd hcd) pa he) hdb he hpl, fun B σ env F H r Q rr hw e k => ?_⟩
  obtain ⟨s, hs, e⟩ := Option.bind_eq_some_iff.mp e
  obtain ⟨ds, hx, hgd⟩ := Option.bind_eq_some_iff.mp e
  obtain ⟨v, s2, h1, h2, _, _⟩ := rr.slot hi0
  refine ⟨v, h1, qa B σ env F H ds _ rr hx fun vs F1 H1 s1 t1 r1 b1 => ?_⟩
  show PureS X.K δ m n g ((v :: vs) ++ []) H1 Q _
  rw [List.append_nil]
  exact pureS_of r1 hi h1 hs ((bwl_rp0 b1).trans hl) (b1.rp0 hn) hgd fun s' d hd => ⟨fun u F2 H2 s3 r3 => (k s' d hd).1 u F2 H2 (s1.trans s3) r3, fun _ _ _ _ _ _ _ _ _ => trivial⟩
theorem slot_rec {C : Addr} {m : Str} {i : Nat} {σ : L2.St} {env : List D} {s : D} (rr : Rel K B Γ σ env F H) (hi : Γ[i]? = some (some δ)) (hs : env[i]? = some s) (hM : isM C m s = true) : ∃ a dx fs, σ[i]? = some (some (.ref a)) ∧ H a = some (.ins C dx fs) ∧ fs.lookup m = none := by
  obtain ⟨v, s2, h1, h2, h3, _⟩ := rr.slot hi
  rw [hs] at h2
  cases h2
  obtain ⟨a, dx, fs, rfl, g1, g2⟩ := rec_at hM (h3.rp rr.fh δ)
  exact ⟨a, dx, fs, h1, g1, g2⟩
theorem sem_meth (i : Nat) {C : Addr} {k : Nat} {f : Addr} {fd : FuncData} {ps : List Str} {m cx : Str} {apos pos cp : Pos} {e : Expr} {es : List Expr} {fs : AF} {ns : List Nat} {M n : Nat} {g : List D → Option D} {pl : Sem Bool}
    (G : FnOk X.prog X.w X.K X.mg X.base CX0 k f fd ps (PureS X.K δ M n g)) (hr : Room k X.A) (c : Cls X.K C) (hm : Meth X.K C m f) (hb : Binds X.K fd ps []) (ha : SA X Γ (e :: es) fs ns Γ1)
    (hi0 : Γ[i]? = some (some δ) := by rfl) (hi : Γ1[i]? = some (some δ) := by rfl) (hN : X.N[i]? = some cx := by rfl) (hv : Vis X.env.scope cx := by first | exact Or.inl rfl | exact Or.inr (Or.inl rfl) | exact Or.inr (Or.inr rfl)) (hd : (cx == ("__debug__" : Str)) = false := by decide) (hcd : (cx == ("__classdict__" : Str)) = false := by decide)
    (hn : (ns.all (· == 0)) = true := by rfl) (hl : ns.length = M := by rfl)
    (hst : starEach (e :: es) X.env = (false, eval e X.env) :: starEach es X.env := by rfl) (hpl : (backTo pos (starEach es X.env)).any (·.1) = false := by rfl)
    (ht : eval (.Call (.Attribute (.Name cx cp) m apos) (e :: es) [] pos) X.env = (do
      let ov ← eval (.Name cx cp) X.env
      standAt apos.atName
      let (f, first) ← holding [ov] (getMethod ov m pl)
      callWith pos f first (backTo pos (starEach (e :: es) X.env)) (backToKw pos (keywordEach [] X.env))) := by rfl) :
    SEM X L W i Γ (.Call (.Attribute (.Name cx cp) m apos) (e :: es) [] pos) (eMS i C m g fs) n Γ1 := by
  obtain ⟨ta, pa, qa⟩ := ha
  refine ⟨_, pe_meth (E := fun _ _ _ => True) (pl := pl) (pe_var hN hv hd hcd) c hm G hr hb .nil pass0 pa hst hpl ht, fun B σ env F H r Q rr hw e' k => ?_⟩
  obtain ⟨s, hs, e'⟩ := Option.bind_eq_some_iff.mp e'
  split at e'
  case isFalse => cases e'
  rename_i hM
  obtain ⟨ds, hx, hgd⟩ := Option.bind_eq_some_iff.mp e'
  obtain ⟨a, dx, fs', h1, h2, h3⟩ := slot_rec rr hi0 hs hM
  refine ⟨.ref a, h1, a, dx, fs', rfl, h2, h3, qa B σ env F H ds _ rr hx fun vs F1 H1 s1 t1 r1 b1 => ?_⟩
  show PureS X.K δ M n g (V.ref a :: (vs ++ [])) H1 Q _
  rw [List.append_nil]
  exact pureS_of r1 hi h1 hs ((bwl_rp0 b1).trans hl) (b1.rp0 hn) hgd fun s' d hd => ⟨fun u F2 H2 s3 r3 => (k s' d hd).1 u F2 H2 (s1.trans s3) r3, fun _ _ _ _ _ _ _ _ _ => trivial⟩
theorem sem_meth0 (i : Nat) {C : Addr} {k : Nat} {f : Addr} {fd : FuncData} {ps : List Str} {m cx : Str} {apos pos cp : Pos} {n : Nat} {g : List D → Option D} {pl : Sem Bool}
    (G : FnOk X.prog X.w X.K X.mg X.base CX0 k f fd ps (PureS X.K δ 0 n g)) (hr : Room k X.A) (c : Cls X.K C) (hm : Meth X.K C m f) (hb : Binds X.K fd ps [])
    (hi : Γ[i]? = some (some δ) := by rfl) (hN : X.N[i]? = some cx := by rfl) (hv : Vis X.env.scope cx := by first | exact Or.inl rfl | exact Or.inr (Or.inl rfl) | exact Or.inr (Or.inr rfl)) (hd : (cx == ("__debug__" : Str)) = false := by decide) (hcd : (cx == ("__classdict__" : Str)) = false := by decide)
    (ht : eval (.Call (.Attribute (.Name cx cp) m apos) [] [] pos) X.env = (do
      let ov ← eval (.Name cx cp) X.env
      standAt apos.atName
      let (f, first) ← holding [ov] (getMethod ov m pl)
      callWith pos f first (backTo pos (starEach [] X.env)) (backToKw pos (keywordEach [] X.env))) := by rfl) :
    SEM X L W i Γ (.Call (.Attribute (.Name cx cp) m apos) [] [] pos) (eMS i C m g aN) n Γ := by
  refine ⟨_, pe_meth0 (E := fun _ _ _ => True) (pl := pl) (pe_var hN hv hd hcd) c hm G hr hb .nil pass0 ht, fun B σ env F H r Q rr hw e' k => ?_⟩
  obtain ⟨s, hs, e'⟩ := Option.bind_eq_some_iff.mp e'
  split at e'
  case isFalse => cases e'
  rename_i hM
  obtain ⟨ds, hx, hgd⟩ := Option.bind_eq_some_iff.mp e'
  cases hx
  obtain ⟨a, dx, fs', h1, h2, h3⟩ := slot_rec rr hi hs hM
  refine ⟨.ref a, h1, a, dx, fs', rfl, h2, h3, ?_⟩
  show PureS X.K δ 0 n g (V.ref a :: ([] ++ [])) H Q fun _ _ _ => True
  exact pureS_of rr hi h1 hs rfl .nil hgd fun s' d hd => ⟨fun u F2 H2 s3 r3 => (k s' d hd).1 u F2 H2 s3 r3, fun _ _ _ _ _ _ _ _ _ => trivial⟩
theorem sem_callL (i : Nat) {q k : Nat} {f : Addr} {fd : FuncData} {ps : List Str} {x cx : Str} {p pos cp : Pos} {es : List Expr} {fs : AF} {ns : List Nat} {m n : Nat} {g : List D → Option D} {Γ Γ1 : Ctx}
    (G : FnOk X.prog X.w X.K X.mg X.base CX0 k f fd ps (PureS X.K δ m n g)) (hr : Room k X.A) (hk : PySem.W.keepIn X.K (.ref f) = true) (hb : Binds X.K fd ps []) (ha : SA X Γ es fs ns Γ1) (hq : X.N[q]? = some x) (hqW : (q, V.ref f) ∈ W) (hvx : Vis X.env.scope x := by first | exact Or.inl rfl | exact Or.inr (Or.inl rfl) | exact Or.inr (Or.inr rfl))
    (hi0 : Γ[i]? = some (some δ) := by rfl) (hi : Γ1[i]? = some (some δ) := by rfl) (hN : X.N[i]? = some cx := by rfl) (hv : Vis X.env.scope cx := by first | exact Or.inl rfl | exact Or.inr (Or.inl rfl) | exact Or.inr (Or.inr rfl)) (hd : (cx == ("__debug__" : Str)) = false := by decide) (hcd : (cx == ("__classdict__" : Str)) = false := by decide)
    (hn : (ns.all (· == 0)) = true := by rfl) (hl : ns.length = m := by rfl) (hdb : (x == ("__debug__" : Str)) = false := by decide) (hcb : (x == ("__classdict__" : Str)) = false := by decide) (he : starEach (.Name cx cp :: es) X.env = (false, eval (.Name cx cp) X.env) :: starEach es X.env := by rfl) (hpl : (backTo pos (starEach es X.env)).any (·.1) = false := by rfl) :
    SEM X L W i Γ (.Call (.Name x p) (.Name cx cp :: es) [] pos) (eLS i g fs) n Γ1 := by
  obtain ⟨ta, pa, qa⟩ := ha
  refine ⟨_, pe_callL (E := fun _ _ _ => True) G hr hq hvx hk hb .nil pass0 (pa_cons (pe_var hN hv hd hcd) pa he) hdb hcb he hpl, fun B σ env F H r Q rr hw e k => ⟨hw _ hqW, ?_⟩⟩
  obtain ⟨s, hs, e⟩ := Option.bind_eq_some_iff.mp e
  obtain ⟨ds, hx, hgd⟩ := Option.bind_eq_some_iff.mp e
  obtain ⟨v, s2, h1, h2, _, _⟩ := rr.slot hi0
  refine ⟨v, h1, qa B σ env F H ds _ rr hx fun vs F1 H1 s1 t1 r1 b1 => ?_⟩
  show PureS X.K δ m n g ((v :: vs) ++ []) H1 Q _
  rw [List.append_nil]
  exact pureS_of r1 hi h1 hs ((bwl_rp0 b1).trans hl) (b1.rp0 hn) hgd fun s' d hd => ⟨fun u F2 H2 s3 r3 => (k s' d hd).1 u F2 H2 (s1.trans s3) r3, fun _ _ _ _ _ _ _ _ _ => trivial⟩
theorem se_mthL0 {C : Addr} {m : Str} {k : Nat} {f : Addr} {fd : FuncData} {ps : List Str} {o : Expr} {fo : EF} {n : Nat} {g : List D → Option D} {apos pos : Pos} {pl : Sem Bool}
    (G : FnOk X.prog X.w X.K X.mg X.base CX0 k f fd ps (Pure X.K 1 0 g)) (hr : Room k X.A) (c : Cls X.K C) (hm : Meth X.K C m f) (hb : Binds X.K fd ps []) (ho : SB X Γ o fo n Γ1)
    (ht : eval (.Call (.Attribute o m apos) [] [] pos) X.env = (do
      let ov ← eval o X.env
      standAt apos.atName
      let (f, first) ← holding [ov] (getMethod ov m pl)
      callWith pos f first (backTo pos (starEach [] X.env)) (backToKw pos (keywordEach [] X.env))) := by rfl) :
    SE X Γ (.Call (.Attribute o m apos) [] [] pos) (eMeth C m (flatF g) fo aN) 0 Γ1 := by
  obtain ⟨to, po, qo⟩ := ho
  refine ⟨_, pe_meth0 (pl := pl) po c hm G hr hb .nil pass0 ht, fun B σ env F H d Q rr e' k => ?_⟩
  obtain ⟨x, hx, e'⟩ := Option.bind_eq_some_iff.mp e'
  split at e'
  case isFalse => cases e'
  rename_i hM
  obtain ⟨ds, hds, e'⟩ := Option.bind_eq_some_iff.mp e'
  cases hds
  obtain ⟨d', hgd, e'⟩ := Option.bind_eq_some_iff.mp e'
  split at e'
  case isFalse => cases e'
  rename_i hfl
  cases e'
  refine qo B σ env F H x _ rr hx fun v F1 H1 s1 t1 r1 b1 => ?_
  have rx : Rp X.K H1 v x := b1.rp r1.fh n
  obtain ⟨a, dx, fs', rfl, h1, h2⟩ := rec_at hM rx
  refine ⟨a, dx, fs', rfl, h1, h2, ?_⟩
  refine ⟨H1, [x], d, ⟨Same.refl _, r1.fh.th⟩, rfl, .cons rx .nil, hgd, fun v F2 H2 got => ?_⟩
  obtain ⟨g', o, q⟩ := got
  have hv : Rp X.K F1 v d := (Own.bw 0 o : Rp X.K F2 v d).flatUp hfl
  have got2 : Got X.K F1 H1 F1 H2 0 d v := ⟨fun _ => 0, ⟨hv, fun _ => rfl⟩, ⟨r1.fh.up q.h0, q.h0, Same.refl _, fun _ _ h => .inl h, fun _ => Nat.zero_le _, fun _ h => absurd h (Nat.lt_irrefl _)⟩⟩
  obtain ⟨s3, t3, r3⟩ := r1.got got2
  exact k _ _ _ (s1.trans s3) (t1.trans t3) r3
def runS (ρ m N : Nat) (b : SF) : List D → Option D := fun ds => if ds.length = m + 1 then (b (ds ++ List.replicate (N - (m + 1)) .none)).bind fun o => match o with
  | .rt d => some d
  | .nx env => if ρ = 0 then (env[0]?).bind fun s => some (mkS s .none) else none
  | _ => none else none
def ctxS (δ m N : Nat) : Ctx := some δ :: ctx0 m (N - 1)
theorem fn_pureS {P : Program} {w : World} {mg : Str → Option Value} {base : Heap} {x qual : Str} {st : Stmt} {f : Addr} {fd : FuncData} {N ps : List Str} {k δ ρ m : Nat} {b : SF} {Γ' : Ctx} {W : WV}
    (G : Fun K x qual st f fd) (S : FnScope N ps (defScope st)) (hm : ps.length = m + 1 := by rfl) (hG : Γ'[0]? = some (some δ) := by rfl) (hW : W = [] := by rfl)
    (hb : ∀ (cdv : Value) (A : Around) (outer : List Env) (s : Shared) (H : Hp) (E : XK), Room k (A.deeper (PyProof.Rows.envOfC qual (defScope st) s.heap.objs.size f cdv)) →
      SSJ (cxOf CX0 P w K mg base N qual (defScope st) f cdv A outer s H E).nox ⟨ρ, [], [], [], fun _ _ _ _ => True⟩ W δ 0 (ctxS δ m N.length) (defBody st) b Γ') :
    FnOk P w K mg base CX0 (k + 1) f fd ps (PureS K δ m ρ (runS ρ m N.length b)) := by
  refine G.ok S (fun vs H Q E h => ?_) (fun cdv A outer s H vs Q E hr h => ?_)
  · obtain ⟨F, v0, us, s, ds, r, f1, rfl, _, h1, _⟩ := h
    rw [List.length_cons, h1, hm]
  obtain ⟨F, v0, us, s0, ds, r, f1, rfl, sf, h1, h2, h3, h4, h5, h6⟩ := h
  obtain ⟨t, p, q⟩ := hb cdv A outer s H E hr
  refine ⟨t, p, ?_⟩
  have hl : ds.length = m := h2.length.symm.trans h1
  unfold runS at h5
  rw [if_pos (by rw [List.length_cons, hl])] at h5
  obtain ⟨o, ho, h5⟩ := Option.bind_eq_some_iff.mp h5
  have eN : N.length - (m + 1) = N.length - 1 - m := by omega
  refine q ⟨hid H f1, F⟩ _ _ F H v0 o _ ?_ ?_ (by subst hW; exact fun p hp => (nomatch hp)) ho ?_
  · refine ⟨f1, ?_, ok_lent sf h4⟩
    have z := slots_start (H := H) (N.length - 1 - m) h2
    unfold ctxS ctx0 L2.start
    rw [hl] at z
    have e : N.length - (v0 :: us).length = N.length - 1 - m := by rw [List.length_cons, h1]; omega
    rw [e, List.map_cons, eN]
    exact ⟨v0, f1, fun _ => 0, rfl, h3, z, fun b => rfl⟩
  · unfold L2.start
    rfl
  · cases o with
    | rt d =>
      cases h5
      exact fun s' d hd => ⟨fun v F' H' s1 ⟨g1, g2, o1, o2, ok⟩ => (h6 s' d hd).1 v F' H' g1 g2 o1 o2 ok, fun _ _ _ _ _ _ _ _ _ _ => trivial⟩
    | nx env =>
      simp only at h5
      split at h5
      · rename_i c
        obtain ⟨s', hs', h5⟩ := Option.bind_eq_some_iff.mp h5
        cases h5
        subst c
        intro σ' F' H' s1 r1 g0 _
        obtain ⟨g2, o2, ok⟩ := r1.lent hG g0 hs'
        exact (h6 s' .none rfl).1 .non F' H' (fun _ => 0) g2 ⟨.non, fun _ => rfl⟩ o2 (ok.less fun a => by show 0 + g2 a ≤ g2 a; omega)
      · cases h5
    | bk e => cases h5
    | ct e => cases h5
theorem sj_while (Γl : Ctx) {c : Expr} {body : List Stmt} {pos : Pos} {fc : TF} {b : SF} (hp : PassesOwn (model X.prog X.w) X.A X.env X.xe) (l : LeC Γl Γ = true) (hc : STs X Γl c fc Γ2) (hb : SSJ X ⟨L.ρ, Γ', Γl, L.pin, L.wx⟩ W δ j Γ2 body b Γl) (l2 : LeC Γ' Γ2 = true) : S1J X L W δ j Γ (.While c body [] pos) (sWhile fc b) Γ' := by
  obtain ⟨tc, pc, qc⟩ := hc
  obtain ⟨tb, pb, qb⟩ := hb
  refine ⟨_, ps_while hp pc pb, fun B σ env F H v0 o E r h0 hw e k => ?_⟩
  obtain ⟨n, e⟩ := sWhile_run e
  obtain ⟨F2, u, r2⟩ := r.down l
  refine ⟨fun m σ' H => ∃ env' F3, Same F F3 ∧ Rel X.K B Γl σ' env' F3 H ∧ σ'[j]? = some (some v0) ∧ Stay W σ' ∧ sWh fc b m env' = some o, ⟨n, env, F2, u, r2, h0, hw, e⟩, ?_⟩
  rintro m σ3 H3 ⟨env3, F3, u3, r3, g3, w3, e3⟩
  cases m with
  | zero => cases e3
  | succ m =>
    obtain ⟨bb, hb, e3⟩ := Option.bind_eq_some_iff.mp e3
    refine qc B σ3 env3 F3 H3 bb _ r3 hb fun F4 H4 s4 t4 r4 => ?_
    cases bb with
    | true =>
      rw [if_pos rfl] at e3 ⊢
      obtain ⟨o1, ho1, e3⟩ := Option.bind_eq_some_iff.mp e3
      refine ⟨fun σ' H => ∃ env' F3, Same F F3 ∧ Rel X.K B Γl σ' env' F3 H ∧ σ'[j]? = some (some v0) ∧ Stay W σ' ∧ sWh fc b m env' = some o, fun σ' H' h => ⟨m, Nat.lt_succ_self _, h⟩, ?_⟩
      refine qb B σ3 env3 F4 H4 v0 o1 _ r4 g3 w3 ho1 ?_
      cases o1 with
      | nx e' => exact fun σ6 F6 H6 s6 r6 g6 w6 => ⟨e', F6, (u3.trans s4).trans s6, r6, g6, w6, e3⟩
      | ct e' => exact fun σ6 F6 H6 s6 r6 g6 w6 => ⟨e', F6, (u3.trans s4).trans s6, r6, g6, w6, e3⟩
      | bk e' => cases e3; exact fun σ6 F6 H6 s6 r6 g6 w6 => k σ6 F6 H6 ((u3.trans s4).trans s6) r6 g6 w6
      | rt d => cases e3; exact fun s d hd => ⟨fun v F6 H6 s6 r6 => (k s d hd).1 v F6 H6 ((u3.trans s4).trans s6) r6, fun x ex c dd σ' F6 H6 s6 r6 => (k s d hd).2 x ex c dd σ' F6 H6 ((u3.trans s4).trans s6) r6⟩
    | false =>
      rw [if_neg (by decide)] at e3 ⊢
      cases e3
      obtain ⟨F5, u5, r5⟩ := r4.down l2
      exact k σ3 F5 H4 ((u3.trans s4).trans u5) r5 g3 w3
def tM (j : Nat) (f : EF) : TM := fun env => (f env).bind fun r => (unS r).bind fun p => match unX p.2 with
  | some _ => none
  | none => (truth p.2).map fun b => (b, env.set j p.1)
theorem stm_of {e : Expr} {f : EF} {n : Nat} (h : SEM X ⟨0, [], [], [], fun _ _ _ _ => True⟩ W j Γ e f n Γ1) (he : ∀ whole, isTrue e X.env whole = (do let v ← whole; standAt e.pos; holding [v] (truthy v)) := by intro _; rfl) : STM X W Γ e (tM j f) Γ1 := by
  obtain ⟨ta, pa, qa⟩ := h
  refine ⟨_, pt_truth pa he, fun B σ env env' F H b Q rr hw e' k => ?_⟩
  obtain ⟨r, hr, e'⟩ := Option.bind_eq_some_iff.mp e'
  obtain ⟨⟨s, d⟩, hs, _⟩ := Option.bind_eq_some_iff.mp e'
  have er := unS_some hs
  subst er
  rw [unS_mk] at e'
  simp only [Option.bind_some] at e'
  split at e'
  · cases e'
  · rename_i hu
    obtain ⟨b', hb, e'⟩ := Option.map_eq_some_iff.mp e'
    cases e'
    refine qa B σ env F H _ _ rr hw hr fun s' d' hd' => ⟨fun v F1 H1 s1 r1 => ?_, fun _ _ _ _ _ _ _ _ _ => trivial⟩
    obtain ⟨e1, e2⟩ := mkS_inj hd'
    subst e1 e2
    exact ⟨_, (r1.bw.rp r1.rel.fh n).tru hb, k F1 H1 s1 r1.rel⟩
def tNotM (c : TM) : TM := fun env => (c env).map fun p => (!p.1, p.2)
theorem stm_not {a : Expr} {pos : Pos} {fa : TM} (ha : STM X W Γ a fa Γ1) : STM X W Γ (.UnaryOp .Not a pos) (tNotM fa) Γ1 := by
  obtain ⟨ta, pa, qa⟩ := ha
  refine ⟨_, pt_not pa, fun B σ env env' F H b Q rr hw e k => ?_⟩
  obtain ⟨⟨c, env1⟩, hx, e⟩ := Option.map_eq_some_iff.mp e
  cases e
  exact qa B σ env env1 F H c _ rr hw hx fun F1 H1 s1 r1 => k F1 H1 s1 r1
def eOfM (j : Nat) (f : EF) : EF := fun env => (f env).bind fun d => (env[j]?).bind fun s => some (mkS s d)
theorem sem_of {e : Expr} {f : EF} {n : Nat} (h : SE X Γ e f n Γ1) : SEM X L W j Γ e (eOfM j f) n Γ1 := by
  obtain ⟨t, p, q⟩ := h
  refine ⟨t, p, fun B σ env F H r Q rr hw e' k => ?_⟩
  obtain ⟨d, hd, e'⟩ := Option.bind_eq_some_iff.mp e'
  obtain ⟨s, hs, e'⟩ := Option.bind_eq_some_iff.mp e'
  cases e'
  refine q B σ env F H d Q rr hd fun v F' H' s1 t1 r1 => (k s d rfl).1 v F' H' s1 ?_
  rw [set_self hs]
  exact r1
theorem sem_if {c a b : Expr} {pos : Pos} {fc : TF} {fa fb : EF} {n : Nat} (hc : STs X Γ c fc Γ1) (ha : SEM X L W j Γ1 a fa n Γ2) (hb : SEM X L W j Γ1 b fb n Γ2) : SEM X L W j Γ (.IfExp c a b pos) (eIf fc fa fb) n Γ2 := by
  obtain ⟨tc, pc, qc⟩ := hc
  obtain ⟨ta, pa, qa⟩ := ha
  obtain ⟨tb, pb, qb⟩ := hb
  refine ⟨_, pe_ifExp pc pa pb, fun B σ env F H d Q rr hw e k => ?_⟩
  obtain ⟨b, hx, e⟩ := Option.bind_eq_some_iff.mp e
  refine qc B σ env F H b _ rr hx fun F1 H1 s1 t1 r1 => ?_
  have k2 : ∀ s' d', d = mkS s' d' → (∀ v F' H', Same F1 F' → RelT X.K B Γ2 σ (env.set j s') F' H' n d' v → Q v H') ∧ ∀ x, d' = mkX x → ∀ c dd F' H', Same F1 F' → Rel X.K B Γ2 σ (env.set j s') F' H' → ExIs X.K F' c dd x → L.wx c dd σ H' :=
    fun s' d' hd => ⟨fun v F2 H2 s2 r2 => (k s' d' hd).1 v F2 H2 (s1.trans s2) r2, fun x ex c dd F2 H2 s2 r2 => (k s' d' hd).2 x ex c dd F2 H2 (s1.trans s2) r2⟩
  cases b with
  | true => exact qa B σ env F1 H1 d Q r1 hw (by simpa using e) k2
  | false => exact qb B σ env F1 H1 d Q r1 hw (by simpa using e) k2
abbrev AM := List D → Option (D × List D)
def SAM (X : Cx) (W : WV) (j : Nat) (Γ : Ctx) (es : List Expr) (f : AM) (Γ' : Ctx) : Prop :=
  ∃ t : TA, PA X es t ∧ ∀ (B : Bs) (σ : L2.St) (env : List D) (F H : Hp) (s' : D) (ds : List D) (Q : List V → Hp → Prop), Rel X.K B Γ σ env F H → Stay W σ → f env = some (s', ds) →
    (∀ vs F' H', Same F F' → Rel X.K B Γ' σ (env.set j s') F' H' → RpAll X.K F' vs ds → Q vs H') → t σ H Q
def aHereM (j : Nat) (f : EF) (fs : AF) : AM := fun env => (f env).bind fun r => (unS r).bind fun p => match unX p.2 with
  | some _ => none
  | none => (fs (env.set j p.1)).bind fun ds => some (p.1, p.2 :: ds)
theorem sam_here {a : Expr} {es : List Expr} {f : EF} {fs : AF} {ns : List Nat} (ha : SEM X ⟨0, [], [], [], fun _ _ _ _ => True⟩ W j Γ a f 0 Γ1) (hs : SA X Γ1 es fs ns Γ2) (hn : (ns.all (· == 0)) = true := by rfl) (he : starEach (a :: es) X.env = (false, eval a X.env) :: starEach es X.env := by rfl) :
    SAM X W j Γ (a :: es) (aHereM j f fs) Γ2 := by
  obtain ⟨ta, pa, qa⟩ := ha
  obtain ⟨tb, pb, qb⟩ := hs
  refine ⟨_, pa_cons pa pb he, fun B σ env F H s' ds Q rr hw e k => ?_⟩
  obtain ⟨r, hr, e⟩ := Option.bind_eq_some_iff.mp e
  obtain ⟨⟨s, d⟩, hss, _⟩ := Option.bind_eq_some_iff.mp e
  have er := unS_some hss
  subst er
  rw [unS_mk] at e
  simp only [Option.bind_some] at e
  split at e
  · cases e
  · obtain ⟨xs, hxs, e⟩ := Option.bind_eq_some_iff.mp e
    cases e
    refine qa B σ env F H _ _ rr hw hr fun s2 d2 hd2 => ⟨fun v F1 H1 s1 r1 => ?_, fun _ _ _ _ _ _ _ _ _ => trivial⟩
    obtain ⟨e1, e2⟩ := mkS_inj hd2
    subst e1 e2
    refine qb B σ _ F1 H1 xs _ r1.rel hxs fun us F2 H2 s2 t2 r2 b2 => k (v :: us) F2 H2 (s1.trans s2) r2 (.cons (Rp.up s2 (show Rp X.K F1 v d from r1.bw)) (b2.rp0 hn))
def aConsM (f : EF) (fs : AM) : AM := fun env => (f env).bind fun d => (fs env).bind fun p => some (p.1, d :: p.2)
theorem sam_cons {a : Expr} {es : List Expr} {f : EF} {fs : AM} (ha : SB X Γ a f 0 Γ1) (hs : SAM X W j Γ1 es fs Γ2) (he : starEach (a :: es) X.env = (false, eval a X.env) :: starEach es X.env := by rfl) : SAM X W j Γ (a :: es) (aConsM f fs) Γ2 := by
  obtain ⟨ta, pa, qa⟩ := ha
  obtain ⟨tb, pb, qb⟩ := hs
  refine ⟨_, pa_cons pa pb he, fun B σ env F H s' ds Q rr hw e k => ?_⟩
  obtain ⟨d, hd, e⟩ := Option.bind_eq_some_iff.mp e
  obtain ⟨⟨s1, xs⟩, hxs, e⟩ := Option.bind_eq_some_iff.mp e
  cases e
  refine qa B σ env F H d _ rr hd fun v F1 H1 s1 t1 r1 b1 => ?_
  refine qb B σ env F1 H1 _ xs _ r1 hw hxs fun us F2 H2 s2 r2 b2 => k (v :: us) F2 H2 (s1.trans s2) r2 (.cons (Rp.up s2 (show Rp X.K F1 v d from b1)) b2)
def eTupM (fs : AM) : EF := fun env => (fs env).bind fun p => if p.2.length ≤ 16777216 then some (mkS p.1 (.tuple p.2)) else none
theorem sem_tup {es : List Expr} {fs : AM} {x1} {pos : Pos} (hs : SAM X W j Γ es fs Γ1) : SEM X L W j Γ (.Tuple es x1 pos) (eTupM fs) 0 Γ1 := by
  obtain ⟨ta, pa, qa⟩ := hs
  refine ⟨_, pe_tup pa, fun B σ env F H d Q rr hw e k => ?_⟩
  obtain ⟨⟨s, ds⟩, hx, e⟩ := Option.bind_eq_some_iff.mp e
  split at e
  · rename_i hz
    cases e
    refine qa B σ env F H s ds _ rr hw hx fun vs F1 H1 s1 r1 rp => ?_
    refine ⟨by rw [rp.length]; exact szLine hz, fun p hp => ?_⟩
    obtain ⟨s3, t3, r3⟩ := r1.got (got_newT r1.fh hp rp)
    exact (k s (.tuple ds) rfl).1 _ _ _ (s1.trans s3) r3
  · cases e
def putFD (nm : Str) (d : D) : List (D × D) → List (D × D)
  | [] => []
  | (.str s, u) :: r => if s = nm then (.str s, d) :: r else (.str s, u) :: putFD nm d r
  | p :: r => p :: putFD nm d r
theorem putFD_at {nm : Str} {d : D} {v : V} (hv : Rp K F v d) : ∀ {r : List (D × D)} {fs : List (Str × V)} {d0 : D}, r.map (·.1) = fs.map (fun p => .str p.1) → RpAll K F (fs.map (·.2)) (r.map (·.2)) → getF nm r = some d0 →
    (putFD nm d r).map (·.1) = (putF nm v fs).map (fun p => .str p.1) ∧ RpAll K F ((putF nm v fs).map (·.2)) ((putFD nm d r).map (·.2)) ∧ (putF nm v fs).length = r.length
  | [], _, _, _, _, h => by cases h
  | _ :: _, [], _, h, _, _ => by simp at h
  | (k, u) :: r, (s, w) :: fs, d0, h, .cons b br, hg => by
    simp only [List.map_cons, List.cons.injEq] at h
    obtain ⟨h1, h2⟩ := h
    subst h1
    by_cases c : s = nm
    · subst c
      have e1 : putFD s d ((.str s, u) :: r) = (.str s, d) :: r := if_pos rfl
      have e2 : putF s v ((s, w) :: fs) = (s, v) :: fs := if_pos rfl
      rw [e1, e2]
      exact ⟨by simp only [List.map_cons, h2], .cons hv br, by have := congrArg List.length h2; simpa using this.symm⟩
    · have e1 : putFD nm d ((.str s, u) :: r) = (.str s, u) :: putFD nm d r := if_neg c
      have e2 : putF nm v ((s, w) :: fs) = (s, w) :: putF nm v fs := if_neg c
      have e3 : getF nm ((.str s, u) :: r) = getF nm r := if_neg fun z => c z.symm
      rw [e3] at hg
      obtain ⟨g1, g2, g3⟩ := putFD_at hv h2 br hg
      rw [e1, e2]
      exact ⟨by simp only [List.map_cons, g1], .cons b g2, by simp only [List.length_cons, g3]⟩
theorem slot_fput {σ : L2.St} {env : List D} {C : Addr} {nm : Str} {r : List (D × D)} {d d0 : D} {v : V} (rr : Rel K B Γ σ env F H) (hj : Γ[j]? = some (some 1)) (hx : env[j]? = some (recO C r)) (hg : getF nm r = some d0) (hv : Rp K F v d) :
    ∃ a dx fs v0, σ[j]? = some (some (.ref a)) ∧ H a = some (.ins C dx fs) ∧ fs.lookup nm = some v0 ∧ Rp K F v0 d0 ∧ fs.length = r.length ∧ Rel K B Γ σ (env.set j (recO C (putFD nm d r))) F (upd H a (.ins C dx (putF nm v fs))) := by
  obtain ⟨a, oo, vs, h0, hO, hD, hR, wr⟩ := slot_dwrite hj rr hx
  obtain ⟨C', dx, fs, rfl, e1, e2, e3⟩ := dic_rec hD
  have eC : C' = C := (Int.ofNat_inj.mp e1).symm
  subst eC e3
  have hR2 : RpAll K F (fs.map (·.2)) (r.map (·.2)) := by
    simp only [List.map_cons] at hR
    cases hR with
    | cons _ q => exact q
  obtain ⟨g1, g2, g3⟩ := putFD_at (nm := nm) hv e2 hR2 hg
  rcases getF_at nm e2 (rpAll_bw hR2) with ⟨v0, d', q1, q2, q3⟩ | ⟨q1, _⟩
  · rw [hg] at q1
    cases q1
    refine ⟨a, dx, fs, v0, h0, hO, q2, q3, by have := congrArg List.length e2; simpa using this.symm, ?_⟩
    exact wr (.ins C' dx (putF nm v fs)) ((.none, .int (C' : Int)) :: putFD nm d r) (.int (C' : Int) :: (putF nm v fs).map (·.2)) (.inr (.inr (.inr ⟨C', dx, putF nm v fs, putFD nm d r, rfl, rfl, g1, rfl⟩))) (by
      simp only [List.map_cons]
      exact .cons (.int _) g2)
  · rw [hg] at q1
    cases q1
def sAugF (j : Nat) (C : Addr) (nm : Str) (c : Int) : SF := fun env => (env[j]?).bind fun x => match x with
  | .dict ((.none, .int c0) :: r) => if c0 = (C : Int) ∧ r.length < 900 then match getF nm r with
    | some (.int i) => some (.nx (env.set j (recO C (putFD nm (.int (i + c)) r))))
    | _ => none else none
  | _ => none
theorem sj_augF {C : Addr} {nm : Str} {c : Int} {o : Expr} {jj} {tpos cp pos : Pos} (T : Cls X.K C) (N : NoAttr X.K C nm) (hx : PE X o (tVar j)) (hj : Γ[j]? = some (some 1) := by rfl) :
    S1J X L W 1 j Γ (.AugAssign (.Attribute o nm tpos) .Add (.Constant (.int c) jj cp) pos) (sAugF j C nm c) Γ := by
  refine ⟨_, ps_fldaug hx pe_int in_add, fun B σ env F H v0 out E rr h0 hw e k => ?_⟩
  obtain ⟨x, hx0, e⟩ := Option.bind_eq_some_iff.mp e
  split at e
  case h_2 => cases e
  rename_i c0 r
  split at e
  case isFalse => cases e
  rename_i hc
  obtain ⟨ec, hlen⟩ := hc
  subst ec
  split at e
  case h_2 => cases e
  rename_i i hg
  cases e
  obtain ⟨a, dx, fs, u, g0, g1, g2, g3, g4, w⟩ := slot_fput (nm := nm) (d := .int (i + c)) (v := .int (i + c)) rr hj hx0 hg (.int _)
  have eu : u = .int i := g3.vint
  subst eu
  refine ⟨.ref a, g0, a, C, dx, fs, .int i, rfl, g1, T, N, g2, i, c, rfl, rfl, dx, fs, g1, by omega, ?_⟩
  exact k σ F _ (Same.refl _) w h0 hw
end
end Pf

set_option Elab.async false
set_option linter.all false
set_option maxRecDepth 100000
set_option maxHeartbeats 4000000
namespace Pf
open PySem PySem.Spec PyProof.Rows L2
section
variable {X : Cx} {L : Lp} {W : WV} {δ j : Nat} {Γ Γ1 Γ2 Γ3 Γ' : Ctx} {K : PySem.W.Frag} {F F' H H' : Hp} {B : Bs} {v0 : V}
theorem kbn_one {x qual y z : Str} {params : Arguments} {body : List Stmt} {scope : Scope} {kV doc pm cdv ct : Value} {an : Option Addr} (h : ∀ a b : Value, bindArgs (PySem.W.fnOf x qual params body scope .none kV doc pm an cdv ct) ⟨[a], [z].zip [b]⟩ = pure ([y, z].zip [a, b])) :
    KBn K (PySem.W.fnOf x qual params body scope .none kV doc pm an cdv ct) [y, z] 1 [z] (fun us ws => us ++ ws) (fun vs zs => vs ++ zs) :=
  ⟨fun s us ws _ h1 h2 => by
    match us, ws, h1, h2 with
    | [a], [b], _, _ => exact .of_eq (h a b), fun h1 h2 => h1.append h2⟩
abbrev KB1 (K : PySem.W.Frag) (fd : FuncData) (y z : Str) : Prop := KBn K fd [y, z] 1 [z] (fun us ws => us ++ ws) (fun vs zs => vs ++ zs)
theorem se_callK {k : Nat} {f : Addr} {fd : FuncData} {y z : Str} {x : Str} {p pos kpos : Pos} {e e2 : Expr} {fa fb : EF} {n : Nat} {g : List D → Option D}
    (G : FnOk X.prog X.w X.K X.mg X.base CX0 k f fd [y, z] (Pure X.K 2 n g)) (hr : Room k X.A) (hg : Gl X x) (hm : X.mg x = some (.ref f)) (hk : PySem.W.keepIn X.K (.ref f) = true) (hb : KB1 X.K fd y z) (ha : SB X Γ e fa 0 Γ1) (hc : SB X Γ1 e2 fb 0 Γ2)
    (hall : (backToKw pos (keywordEach [⟨some z, e2, kpos⟩] X.env)).all (·.1.isSome) = true := by rfl) (hks : (backToKw pos (keywordEach [⟨some z, e2, kpos⟩] X.env)).filterMap (·.1) = [z] := by rfl)
    (hdb : (x == ("__debug__" : Str)) = false := by decide) (he : starEach [e] X.env = (false, eval e X.env) :: starEach [] X.env := by rfl)
    (hpl : ((backTo pos (starEach [e] X.env)).any (·.1) || (backToKw pos (keywordEach [⟨some z, e2, kpos⟩] X.env)).any (·.1.isNone)) = false := by rfl) :
    SE X Γ (.Call (.Name x p) [e] [⟨some z, e2, kpos⟩] pos) (eL g (aC fa (aC fb aN))) n Γ2 := by
  obtain ⟨ta, pa, qa⟩ := ha
  obtain ⟨tb, pb, qb⟩ := hc
  refine ⟨_, pe_callN (E := fun _ _ _ => True) G hr hg hm hk hb pass0 (pa_cons pa pa_nil he) (pk_cons pb pk_nil) hall hks hdb he hpl, fun B σ env F H d Q rr e' k => ?_⟩
  obtain ⟨ds, hx, hgd⟩ := Option.bind_eq_some_iff.mp e'
  obtain ⟨d1, h1, hx⟩ := Option.bind_eq_some_iff.mp hx
  obtain ⟨l2, h2', hx⟩ := Option.bind_eq_some_iff.mp hx
  obtain ⟨d2, h2, h3⟩ := Option.bind_eq_some_iff.mp h2'
  cases h3
  cases hx
  refine qa B σ env F H d1 _ rr h1 fun v F1 H1 s1 t1 r1 b1 => ?_
  refine qb B σ env F1 H1 d2 _ r1 h2 fun u F2 H2 s2 t2 r2 b2 => ?_
  refine ⟨rfl, rfl, F2, [d1, d2], d, r2.fh, rfl, .cons (Rp.up s2 (show Rp X.K F1 v d1 from b1)) (.cons (show Rp X.K F2 u d2 from b2) .nil), hgd, fun w F3 H3 got => ?_⟩
  obtain ⟨s3, t3, r3⟩ := r2.got got
  exact k _ _ _ ((s1.trans s2).trans s3) ((t1.trans t2).trans t3) r3
theorem sem_callK (i : Nat) {k : Nat} {f : Addr} {fd : FuncData} {y z : Str} {x cx : Str} {p pos cp kpos : Pos} {e2 : Expr} {fb : EF} {n : Nat} {g : List D → Option D}
    (G : FnOk X.prog X.w X.K X.mg X.base CX0 k f fd [y, z] (PureS X.K δ 1 n g)) (hr : Room k X.A) (hg : Gl X x) (hm : X.mg x = some (.ref f)) (hk : PySem.W.keepIn X.K (.ref f) = true) (hb : KB1 X.K fd y z) (hc : SB X Γ e2 fb 0 Γ1)
    (hi0 : Γ[i]? = some (some δ) := by rfl) (hi : Γ1[i]? = some (some δ) := by rfl) (hN : X.N[i]? = some cx := by rfl) (hv : Vis X.env.scope cx := by first | exact Or.inl rfl | exact Or.inr (Or.inl rfl) | exact Or.inr (Or.inr rfl)) (hd : (cx == ("__debug__" : Str)) = false := by decide) (hcd : (cx == ("__classdict__" : Str)) = false := by decide)
    (hall : (backToKw pos (keywordEach [⟨some z, e2, kpos⟩] X.env)).all (·.1.isSome) = true := by rfl) (hks : (backToKw pos (keywordEach [⟨some z, e2, kpos⟩] X.env)).filterMap (·.1) = [z] := by rfl)
    (hdb : (x == ("__debug__" : Str)) = false := by decide) (he : starEach [.Name cx cp] X.env = (false, eval (.Name cx cp) X.env) :: starEach [] X.env := by rfl)
    (hpl : ((backTo pos (starEach [.Name cx cp] X.env)).any (·.1) || (backToKw pos (keywordEach [⟨some z, e2, kpos⟩] X.env)).any (·.1.isNone)) = false := by rfl) :
    SEM X L W i Γ (.Call (.Name x p) [.Name cx cp] [⟨some z, e2, kpos⟩] pos) (eLS i g (aC fb aN)) n Γ1 := by
  obtain ⟨tb, pb, qb⟩ := hc
  refine ⟨_, pe_callN (E := fun _ _ _ => True) G hr hg hm hk hb pass0 (pa_cons (pe_var hN hv hd hcd) pa_nil he) (pk_cons pb pk_nil) hall hks hdb he hpl, fun B σ env F H r Q rr hw e' k => ?_⟩
  obtain ⟨s, hs, e'⟩ := Option.bind_eq_some_iff.mp e'
  obtain ⟨ds, hx, hgd⟩ := Option.bind_eq_some_iff.mp e'
  obtain ⟨d2, h2, h3⟩ := Option.bind_eq_some_iff.mp hx
  cases h3
  obtain ⟨v, s2, h1, h3, _, _⟩ := rr.slot hi0
  refine ⟨v, h1, ?_⟩
  refine qb B σ env F H d2 _ rr h2 fun u F1 H1 s1 t1 r1 b1 => ⟨rfl, rfl, ?_⟩
  show PureS X.K δ 1 n g [v, u] H1 Q _
  exact pureS_of r1 hi h1 hs rfl (.cons (show Rp X.K F1 u d2 from b1) .nil) hgd fun s' d hd => ⟨fun u F2 H2 s3 r3 => (k s' d hd).1 u F2 H2 (s1.trans s3) r3, fun _ _ _ _ _ _ _ _ _ => trivial⟩
def intTD : List D → Option D
  | [.str x] => if x.length ≤ 640 then (PySem.intText? x).map .int else none
  | _ => none
theorem sl_intT {n : Nat} : SL K (fun xs H Q => ∃ a n, xs = [V.str a] ∧ PySem.intText? a = some n ∧ a.length ≤ 640 ∧ Q (.int n) H) [n] 0 intTD := by
  intro F H xs ds d Q s b e k
  obtain ⟨da, v, e1, e2, b0⟩ := b.one
  subst e1 e2
  clear b
  unfold intTD at e
  split at e
  · rename_i x hx
    cases hx
    split at e
    · rename_i hl
      obtain ⟨i, hi, e⟩ := Option.map_eq_some_iff.mp e
      cases e
      exact ⟨x, i, by rw [(b0.rp s n).vstr], hi, hl, k _ F H (got_val s (.int _))⟩
    · cases e
  · cases e
theorem se_intT {p pos : Pos} {e : Expr} {fa : EF} {n : Nat} (hg : Gl X "int") (hm : X.mg "int" = none) (ha : SB X Γ e fa n Γ1) (he : starEach (e :: []) X.env = (false, eval e X.env) :: starEach [] X.env := by rfl) (hpl : (backTo pos (starEach [] X.env)).any (·.1) = false := by rfl) :
    SE X Γ (.Call (.Name "int" p) [e] [] pos) (eL intTD (aC fa aN)) 0 Γ1 := se_callTy call_int_str sl_intT hg hm boot_int' (sa_cons ha sa_nil he) (by decide) (by decide) he hpl
def eIntM (f : EF) : EF := fun env => (f env).bind fun r => (unS r).bind fun p => match unX p.2 with
  | some _ => none
  | none => (intTD [p.2]).bind fun d => some (mkS p.1 d)
theorem sem_intT {p pos : Pos} {e : Expr} {f : EF} (hg : Gl X "int") (hm : X.mg "int" = none) (ha : SEM X ⟨0, [], [], [], fun _ _ _ _ => True⟩ W j Γ e f 0 Γ1) (he : starEach (e :: []) X.env = (false, eval e X.env) :: starEach [] X.env := by rfl) (hpl : (backTo pos (starEach [] X.env)).any (·.1) = false := by rfl) :
    SEM X L W j Γ (.Call (.Name "int" p) [e] [] pos) (eIntM f) 0 Γ1 := by
  obtain ⟨ta, pa, qa⟩ := ha
  refine ⟨_, pe_callTy call_int_str hg hm boot_int' (pa_cons pa pa_nil he) (by decide) (by decide) he hpl, fun B σ env F H r Q rr hw e' k => ?_⟩
  obtain ⟨r1, hr1, e'⟩ := Option.bind_eq_some_iff.mp e'
  obtain ⟨⟨s, d⟩, hs, _⟩ := Option.bind_eq_some_iff.mp e'
  have er := unS_some hs
  subst er
  rw [unS_mk] at e'
  simp only [Option.bind_some] at e'
  split at e'
  · cases e'
  · obtain ⟨d2, hd2, e'⟩ := Option.bind_eq_some_iff.mp e'
    cases e'
    refine qa B σ env F H _ _ rr hw hr1 fun s' d' hd' => ⟨fun v F1 H1 s1 r1 => ?_, fun _ _ _ _ _ _ _ _ _ => trivial⟩
    obtain ⟨e1, e2⟩ := mkS_inj hd'
    subst e1 e2
    exact sl_intT (n := 0) F1 H1 [v] [d] d2 Q r1.rel.fh ⟨r1.bw, trivial⟩ hd2 fun u F2 H2 got => by
      obtain ⟨s3, t3, r3⟩ := r1.rel.got got
      exact (k s d2 rfl).1 u F2 H2 (s1.trans s3) r3
def PureSF (K : PySem.W.Frag) (δ m n : Nat) (ws : List V) (g : List D → Option D) : Sp := fun vs H Q E => ∃ us, vs = us ++ ws ∧ PureS K δ m n g us H Q E
def SAF (X : Cx) (Γ : Ctx) (es : List Expr) (f : AF) (ns : List Nat) (w : V) (Γ' : Ctx) : Prop :=
  ∃ t : TA, PA X es t ∧ ∀ (B : Bs) (σ : L2.St) (env : List D) (F H : Hp) (ds : List D) (Q : List V → Hp → Prop), Rel X.K B Γ σ env F H → f env = some ds →
    (∀ vs F' H', Same F F' → Same H H' → Rel X.K B Γ' σ env F' H' → BwL X.K F' H' ns ds vs → Q (vs ++ [w]) H') → t σ H Q
theorem saf_last {x : Str} {f : Addr} {pos : Pos} (hg : Gl X x) (hm : X.mg x = some (.ref f)) (he : starEach [.Name x pos] X.env = (false, eval (.Name x pos) X.env) :: starEach [] X.env := by rfl) (hd : (x == ("__debug__" : Str)) = false := by decide) : SAF X Γ [.Name x pos] aN [] (.ref f) Γ :=
  ⟨_, pa_cons (pe_glob (v := .ref f) hg hm rfl hd) pa_nil he, fun B σ env F H ds Q r e k => by
    cases e
    exact k [] F H (Same.refl _) (Same.refl _) r trivial⟩
theorem saf_cons {a : Expr} {es : List Expr} {fa : EF} {fs : AF} {n : Nat} {ns : List Nat} {w : V} (ha : SB X Γ a fa n Γ1) (hs : SAF X Γ1 es fs ns w Γ2) (he : starEach (a :: es) X.env = (false, eval a X.env) :: starEach es X.env := by rfl) :
    SAF X Γ (a :: es) (aC fa fs) (n :: ns) w Γ2 := by
  obtain ⟨ta, pa, qa⟩ := ha
  obtain ⟨tb, pb, qb⟩ := hs
  refine ⟨_, pa_cons pa pb he, fun B σ env F H ds Q rr e k => ?_⟩
  obtain ⟨x, hx, e⟩ := Option.bind_eq_some_iff.mp e
  obtain ⟨xs, hxs, e⟩ := Option.bind_eq_some_iff.mp e
  cases e
  refine qa B σ env F H x _ rr hx fun v F1 H1 s1 t1 r1 b1 => ?_
  refine qb B σ env F1 H1 xs _ r1 hxs fun us F2 H2 s2 t2 r2 b2 => ?_
  exact k (v :: us) F2 H2 (s1.trans s2) (t1.trans t2) r2 ⟨b1.mono s2 t2 n, b2⟩
theorem sem_callF (i : Nat) {k : Nat} {f : Addr} {fd : FuncData} {ps : List Str} {x cx : Str} {p pos cp : Pos} {es : List Expr} {fs : AF} {ns : List Nat} {m n : Nat} {w : V} {g : List D → Option D}
    (G : FnOk X.prog X.w X.K X.mg X.base CX0 k f fd ps (PureSF X.K δ m n [w] g)) (hr : Room k X.A) (hg : Gl X x) (hm : X.mg x = some (.ref f)) (hk : PySem.W.keepIn X.K (.ref f) = true) (hb : Binds X.K fd ps []) (ha : SAF X Γ es fs ns w Γ1)
    (hi0 : Γ[i]? = some (some δ) := by rfl) (hi : Γ1[i]? = some (some δ) := by rfl) (hN : X.N[i]? = some cx := by rfl) (hv : Vis X.env.scope cx := by first | exact Or.inl rfl | exact Or.inr (Or.inl rfl) | exact Or.inr (Or.inr rfl)) (hd : (cx == ("__debug__" : Str)) = false := by decide) (hcd : (cx == ("__classdict__" : Str)) = false := by decide)
    (hn : (ns.all (· == 0)) = true := by rfl) (hl : ns.length = m := by rfl) (hdb : (x == ("__debug__" : Str)) = false := by decide) (he : starEach (.Name cx cp :: es) X.env = (false, eval (.Name cx cp) X.env) :: starEach es X.env := by rfl) (hpl : (backTo pos (starEach es X.env)).any (·.1) = false := by rfl) :
    SEM X L W i Γ (.Call (.Name x p) (.Name cx cp :: es) [] pos) (eLS i g fs) n Γ1 := by
  obtain ⟨ta, pa, qa⟩ := ha
  refine ⟨_, pe_call (E := fun _ _ _ => True) G hr hg hm hk hb .nil pass0 (pa_cons (pe_var hN hv hd hcd) pa he) hdb he hpl, fun B σ env F H r Q rr hw e k => ?_⟩
  obtain ⟨s, hs, e⟩ := Option.bind_eq_some_iff.mp e
  obtain ⟨ds, hx, hgd⟩ := Option.bind_eq_some_iff.mp e
  obtain ⟨v, s2, h1, h2, _, _⟩ := rr.slot hi0
  refine ⟨v, h1, qa B σ env F H ds _ rr hx fun vs F1 H1 s1 t1 r1 b1 => ?_⟩
  refine ⟨v :: vs, by show v :: (vs ++ [w]) ++ [] = _; rw [List.append_nil]; rfl, ?_⟩
  exact pureS_of r1 hi h1 hs ((bwl_rp0 b1).trans hl) (b1.rp0 hn) hgd fun s' d hd => ⟨fun u F2 H2 s3 r3 => (k s' d hd).1 u F2 H2 (s1.trans s3) r3, fun _ _ _ _ _ _ _ _ _ => trivial⟩
theorem fn_pureSF {P : Program} {w : World} {mg : Str → Option Value} {base : Heap} {x qual : Str} {st : Stmt} {f : Addr} {fd : FuncData} {N ps : List Str} {k δ ρ m : Nat} {b : SF} {Γ' : Ctx} {u : V}
    (G : Fun K x qual st f fd) (S : FnScope N ps (defScope st)) (hm : ps.length = m + 2 := by rfl) (hN : m + 2 ≤ N.length := by decide) (hG : Γ'[0]? = some (some δ) := by rfl)
    (hb : ∀ (cdv : Value) (A : Around) (outer : List Env) (s : Shared) (H : Hp) (E : XK), Room k (A.deeper (PyProof.Rows.envOfC qual (defScope st) s.heap.objs.size f cdv)) →
      SSJ (cxOf CX0 P w K mg base N qual (defScope st) f cdv A outer s H E).nox ⟨ρ, [], [], [], fun _ _ _ _ => True⟩ [(m + 1, u)] δ 0 (ctxS δ m N.length) (defBody st) b Γ') :
    FnOk P w K mg base CX0 (k + 1) f fd ps (PureSF K δ m ρ [u] (runS ρ m N.length b)) := by
  refine G.ok S (fun vs H Q E h => ?_) (fun cdv A outer s H vs Q E hr h => ?_)
  · obtain ⟨vs', rfl, F, v0, us, s, ds, r, f1, rfl, _, h1, _⟩ := h
    rw [List.length_append, List.length_cons, h1, hm]
    rfl
  obtain ⟨vs', rfl, F, v0, us, s0, ds, r, f1, rfl, sf, h1, h2, h3, h4, h5, h6⟩ := h
  obtain ⟨t, p, q⟩ := hb cdv A outer s H E hr
  refine ⟨t, p, ?_⟩
  have hl : ds.length = m := h2.length.symm.trans h1
  unfold runS at h5
  rw [if_pos (by rw [List.length_cons, hl])] at h5
  obtain ⟨o, ho, h5⟩ := Option.bind_eq_some_iff.mp h5
  have eN : N.length - (m + 1) = N.length - 1 - m := by omega
  have eM : N.length - 1 - m = (N.length - (m + 2)) + 1 := by omega
  refine q ⟨hid H f1, F⟩ _ _ F H v0 o _ ?_ ?_ ?_ ho ?_
  · refine ⟨f1, ?_, ok_lent sf h4⟩
    unfold ctxS ctx0 L2.start
    have e : N.length - (v0 :: us ++ [u]).length = N.length - (m + 2) := by rw [List.length_append, List.length_cons, h1]; rfl
    rw [e, List.map_append, List.map_cons, eN, eM]
    have sl : ∀ {us : List V} {ds : List D}, RpAll K F us ds → Slots K F H (List.replicate ds.length (some 0) ++ List.replicate ((N.length - (m + 2)) + 1) none) (us.map some ++ ([u].map some ++ List.replicate (N.length - (m + 2)) none)) (ds ++ List.replicate ((N.length - (m + 2)) + 1) .none) (fun _ => 0) := by
      intro us ds hr
      induction hr using RpAll.rec (motive_1 := fun _ _ _ => True) with
      | non => trivial
      | bl => trivial
      | int => trivial
      | str => trivial
      | lst => trivial
      | tup => trivial
      | dic => trivial
      | nil => exact slots0 _
      | cons a b _ ih => exact ⟨_, fun _ => 0, fun _ => 0, rfl, ⟨a, fun _ => rfl⟩, ih, fun _ => rfl⟩
    have z := sl h2
    rw [hl] at z
    show Slots K F H (some δ :: _) (some v0 :: (us.map some ++ [u].map some) ++ _) (s0 :: _) f1
    rw [List.cons_append, List.append_assoc]
    exact ⟨v0, f1, fun _ => 0, rfl, h3, z, fun b => rfl⟩
  · unfold L2.start
    rfl
  · intro p hp
    rw [List.mem_singleton.mp hp]
    unfold L2.start
    show ((v0 :: us ++ [u]).map some ++ _)[m + 1]? = _
    rw [List.map_append, List.map_cons, List.append_assoc, List.cons_append, List.getElem?_cons_succ, List.getElem?_append_right (by rw [List.length_map, h1]; exact Nat.le_refl _), List.length_map, h1, Nat.sub_self]
    rfl
  · cases o with
    | rt d =>
      cases h5
      exact fun s' d hd => ⟨fun v F' H' s1 ⟨g1, g2, o1, o2, ok⟩ => (h6 s' d hd).1 v F' H' g1 g2 o1 o2 ok, fun _ _ _ _ _ _ _ _ _ _ => trivial⟩
    | nx env =>
      simp only at h5
      split at h5
      · rename_i c
        obtain ⟨s', hs', h5⟩ := Option.bind_eq_some_iff.mp h5
        cases h5
        subst c
        intro σ' F' H' s1 r1 g0 _
        obtain ⟨g2, o2, ok⟩ := r1.lent hG g0 hs'
        exact (h6 s' .none rfl).1 .non F' H' (fun _ => 0) g2 ⟨.non, fun _ => rfl⟩ o2 (ok.less fun a => by show 0 + g2 a ≤ g2 a; omega)
      · cases h5
    | bk e => cases h5
    | ct e => cases h5
theorem none_fnS {P : Program} {w : World} {mg : Str → Option Value} {base : Heap} {f : Addr} {fd : FuncData} {ps : List Str} {k m n : Nat} {g : List D → Option D} (h : ∀ ds, g ds = none) : FnOk P w K mg base CX0 k f fd ps (PureS K δ m n g) := by
  have no : ∀ vs H Q E, ¬ PureS K δ m n g vs H Q E := fun vs H Q E z => by
    obtain ⟨_, _, _, _, _, _, _, _, _, _, _, _, _, e, _⟩ := z
    rw [h] at e
    cases e
  exact ⟨fun vs H Q E h => absurd h (no vs H Q E), fun A outer s H args us vs Q E _ _ _ _ h => absurd h (no vs H Q E)⟩
theorem none_fnSF {P : Program} {w : World} {mg : Str → Option Value} {base : Heap} {f : Addr} {fd : FuncData} {ps : List Str} {k m n : Nat} {ws : List V} {g : List D → Option D} (h : ∀ ds, g ds = none) : FnOk P w K mg base CX0 k f fd ps (PureSF K δ m n ws g) := by
  have no : ∀ vs H Q E, ¬ PureSF K δ m n ws g vs H Q E := fun vs H Q E z => by
    obtain ⟨_, _, _, _, _, _, _, _, _, _, _, _, _, _, _, e, _⟩ := z
    rw [h] at e
    cases e
  exact ⟨fun vs H Q E h => absurd h (no vs H Q E), fun A outer s H args us vs Q E _ _ _ _ h => absurd h (no vs H Q E)⟩
def sSetMS (j i : Nat) (f : EF) : SF := fun env => (f env).bind fun r => (unS r).bind fun p => match unX p.2 with
  | some x => some (.rt (mkX x))
  | none => some (.nx ((env.set j p.1).set i p.2))
theorem ss_setM (j i : Nat) {x : Str} {e : Expr} {f : EF} {n : Nat} {pos pos' : Pos} (h : SEM X L [] j Γ e f n Γ1) (hN : X.N.Nodup) (hjp : j ∉ L.pin := by first | decide | simp) (hip : i ∉ L.pin := by first | decide | simp) (hl : i < Γ1.length := by decide) (hi : X.N[i]? = some x := by rfl) (hx : Loc X.env.scope x := by first | exact .inl rfl | exact .inr rfl) (hs : swapsWith e (some (.Name x pos')) pos.line X.env = pure false := by rfl)
    (hf : X.fn x = true ∨ X.env.scope.names.lookup x = some .local := by first | exact .inl rfl | exact .inr rfl) : SS X L Γ (.Assign [.Name x pos'] e pos) (sSetMS j i f) (Γ1.set i (some n)) := by
  obtain ⟨t, p, q⟩ := h
  refine ⟨_, ps_set hN hi hx p hs hf, fun B σ env F H o E r e k => ?_⟩
  obtain ⟨d, hd, e⟩ := Option.bind_eq_some_iff.mp e
  refine q B σ env F H d _ r (fun p hp => (nomatch hp)) hd fun s' d' hd' => ⟨fun v F2 H2 s1 r2 => ?_, fun y ey c dd F2 H2 s1 r2 hx => ?_⟩
  · subst hd'
    rw [unS_mk] at e
    simp only [Option.bind_some, nuX r2] at e
    cases e
    exact k _ F2 H2 s1 (r2.put hl) ((Kp.setE hjp).trans (Kp.set hip))
  · subst hd'
    subst ey
    rw [unS_mk] at e
    simp only [Option.bind_some, unX_mk] at e
    cases e
    exact k.2 y rfl c dd σ F2 H2 s1 r2.ok0 hx
end
inductive GEnS : List DictEntry → List (Str × Str) → Prop
  | nil : GEnS [] []
  | cons {h : Int} {t t' : Tok} {s i : Str} {r : List DictEntry} {l : List (Str × Str)} : GEnS r l → GEnS (⟨h, .str s t, .str i t'⟩ :: r) ((s, i) :: l)
structure GlDS (K : PySem.W.Frag) (w : World) (mg : Str → Option Value) (x : Str) (l : List (Str × Str)) : Prop where
  ex : ∃ (d : Addr) (es : Array DictEntry) (n : Nat), mg x = some (.ref d) ∧ KDict K w d es n ∧ GEnS es.toList l
def lookT : List (Str × Str) → Str → Option Str
  | [], _ => none
  | (s, i) :: l, k => if s = k then some i else lookT l k
theorem gens_find {k : Str} : ∀ {es : List DictEntry} {l : List (Str × Str)}, GEnS es l → (∀ i, lookT l k = some i → ∃ t e, es.find? (fun e => e.key.isStr k) = some e ∧ e.val = Value.str i t) ∧ (lookT l k = none → es.find? (fun e => e.key.isStr k) = none) ∧ es.any (fun e => e.refKey) = false
  | _, _, .nil => ⟨fun i h => (nomatch h), fun _ => rfl, rfl⟩
  | _, _, .cons (h := h) (t := t) (t' := t') (s := s) (i := i) (r := r) (l := l) g => by
    obtain ⟨i1, i2, i3⟩ := gens_find (k := k) g
    refine ⟨?_, ?_, ?_⟩
    · intro j hj
      by_cases c : s = k
      · have hj : (if s = k then some i else lookT l k) = some j := hj
        rw [if_pos c] at hj
        cases hj
        refine ⟨t', ⟨h, .str s t, .str i t'⟩, ?_, rfl⟩
        rw [List.find?_cons_of_pos]
        show (s == k) = true
        rw [c]; exact beq_self_eq_true k
      · have hj : (if s = k then some i else lookT l k) = some j := hj
        rw [if_neg c] at hj
        rw [List.find?_cons_of_neg]
        · exact i1 j hj
        · show ¬ (s == k) = true
          rw [beq_iff_eq]; exact c
    · intro hn
      by_cases c : s = k
      · have hn : (if s = k then some i else lookT l k) = none := hn
        rw [if_pos c] at hn
        cases hn
      · have hn : (if s = k then some i else lookT l k) = none := hn
        rw [if_neg c] at hn
        rw [List.find?_cons_of_neg]
        · exact i2 hn
        · show ¬ (s == k) = true
          rw [beq_iff_eq]; exact c
    · rw [List.any_cons, i3]
      rfl
theorem GlDS.ns {K : PySem.W.Frag} {w : World} {d : Addr} {es : Array DictEntry} {n : Nat} {l : List (Str × Str)} (D : KDict K w d es n) (G : GEnS es.toList l) (k : Str) :
    (∀ i, lookT l k = some i → ∃ t, PySem.W.nsIn K d k = some (some (.str i t))) ∧ (lookT l k = none → PySem.W.nsIn K d k = some none) := by
  obtain ⟨h1, h2, h3⟩ := gens_find (k := k) G
  unfold PySem.W.nsIn
  rw [D.at_]
  refine ⟨fun i hi => ?_, fun hn => ?_⟩
  · obtain ⟨t, e, he, hv⟩ := h1 i hi
    refine ⟨t, ?_⟩
    show (match es.toList.find? (fun e => e.key.isStr k) with | some e => some (some e.val) | none => _) = _
    rw [he]
    show some (some e.val) = _
    rw [hv]
  · show (match es.toList.find? (fun e => e.key.isStr k) with | some e => some (some e.val) | none => if es.toList.any (fun e => e.refKey) then none else some none) = _
    rw [h2 hn, h3]
    rfl
section
variable {X : Cx} {Γ Γ1 : Ctx}
def eIxGS (l : List (Str × Str)) (fa : EF) : EF := fun env => (fa env).bind fun k => match k with
  | .str z => (lookT l z).map .str
  | _ => none
theorem se_ixGS {x : Str} {l : List (Str × Str)} {a : Expr} {pos xp : Pos} {fa : EF} {na : Nat} (T : GlDS X.K X.w X.mg x l) (hg : Gl X x) (ha : SB X Γ a fa na Γ1) (hdb : (x == ("__debug__" : Str)) = false := by decide) (hp : PlainIx a := by exact fun _ _ => rfl) :
    SE X Γ (.Subscript (.Name x xp) a pos) (eIxGS l fa) 0 Γ1 := by
  obtain ⟨ta, pa, qa⟩ := ha
  obtain ⟨d, es, n, hm, D, G⟩ := T.ex
  refine ⟨_, pe_ix ix_kdict (pe_glob (v := .ref d) hg hm rfl hdb) pa hp, fun B σ env F H dd Q rr e k => ?_⟩
  obtain ⟨dk, hk, e⟩ := Option.bind_eq_some_iff.mp e
  refine qa B σ env F H dk _ rr hk fun v F1 H1 s1 t1 r1 b1 => ?_
  cases dk with
  | str z =>
    obtain ⟨i, hi, e⟩ := Option.map_eq_some_iff.mp e
    cases e
    have ev : v = .str z := (b1.rp r1.fh na).vstr
    obtain ⟨t, ht⟩ := (GlDS.ns D G z).1 i hi
    exact ⟨d, z, .str i, rfl, ev, ⟨es, n, _, D.at_, D.lit, ht, ⟨t, rfl⟩⟩, k _ F1 H1 s1 t1 (r1.t0 (.str i))⟩
  | _ => cases e
def tInGS (l : List (Str × Str)) (neg : Bool) (fa : EF) : TF := fun env => (fa env).bind fun k => match k with
  | .str z => some (if neg = true then !(lookT l z).isSome else (lookT l z).isSome)
  | _ => none
theorem st_inGS {x : Str} {l : List (Str × Str)} {a : Expr} {pos xp : Pos} {fa : EF} {na : Nat} (T : GlDS X.K X.w X.mg x l) (hg : Gl X x) (ha : SB X Γ a fa na Γ1) (hdb : (x == ("__debug__" : Str)) = false := by decide) (hm : behindInMarks .In (.Name x xp) = false := by rfl) :
    STs X Γ (.Compare a [.In] [.Name x xp] pos) (tInGS l false fa) Γ1 := by
  obtain ⟨ta, pa, qa⟩ := ha
  obtain ⟨d, es, n, hmg, D, G⟩ := T.ex
  refine ⟨_, pt_cmpR (op_in_kd D) pa (pe_glob (v := .ref d) hg hmg rfl hdb) hm, fun B σ env F H b Q rr e k => ?_⟩
  obtain ⟨dk, hk, e⟩ := Option.bind_eq_some_iff.mp e
  refine qa B σ env F H dk _ rr hk fun v F1 H1 s1 t1 r1 b1 => ?_
  cases dk with
  | str z =>
    cases e
    have ev : v = .str z := (b1.rp r1.fh na).vstr
    obtain ⟨g1, g2⟩ := GlDS.ns D G z
    cases c : lookT l z with
    | some i =>
      obtain ⟨t, ht⟩ := g1 i c
      rw [c] at k
      exact ⟨z, _, ev, rfl, ht, _, rfl, k F1 H1 s1 t1 r1⟩
    | none =>
      rw [c] at k
      exact ⟨z, _, ev, rfl, g2 c, _, rfl, k F1 H1 s1 t1 r1⟩
  | _ => cases e
end
end Pf

set_option Elab.async false
set_option linter.all false
set_option maxRecDepth 100000
set_option maxHeartbeats 4000000
namespace Pf
open PySem PySem.Spec PyProof.Rows L2
def txtsD : List D → Option (List Str)
  | [] => some []
  | .str x :: ds => (txtsD ds).map (x :: ·)
  | _ :: _ => none
def joinD (a : Str) : D → Option D
  | .list ds => (txtsD ds).bind fun ys => if (ys.map (·.length)).sum + ys.length * a.length ≤ 16777216 then some (.str (Txt.join a ys)) else none
  | _ => none
def replD (y z : Str) : D → Option D
  | .str x => if x.length + (x.length + 1) * z.length ≤ 16777216 then some (.str (Txt.replace x y z)) else none
  | _ => none
section
variable {X : Cx} {Γ Γ1 : Ctx} {K : PySem.W.Frag} {F H : Hp}
theorem txts_vals : ∀ {ds : List D} {vs : List V} {ys : List Str}, RpAll K H vs ds → txtsD ds = some ys → vs = ys.map V.str
  | [], _, _, .nil, h => by cases h; rfl
  | d :: ds, _, ys, .cons (v := v) (vs := vs) a b, h => by
    cases d with
    | str x =>
      obtain ⟨zs, hz, e⟩ := Option.map_eq_some_iff.mp (show (txtsD ds).map (x :: ·) = some ys from h)
      cases e
      rw [a.vstr, txts_vals b hz]
      rfl
    | _ => cases h
theorem join_bw {n : Nat} {d : D} {v : V} {a : Str} {r : D} (e : Sub F H) (b : Bw K F H n d v) (h : joinD a d = some r) :
    ∃ p ys, v = .ref p ∧ SqL K H p (ys.map V.str) ∧ (ys.map (·.length)).sum + ys.length * a.length ≤ 16777216 ∧ r = .str (Txt.join a ys) := by
  cases d with
  | list ds =>
    obtain ⟨ys, hy, h⟩ := Option.bind_eq_some_iff.mp (show (txtsD ds).bind _ = some r from h)
    split at h
    · rename_i hz
      cases h
      obtain ⟨p, xs, rfl, s, rr⟩ := (b.rp e n).vlst
      exact ⟨p, ys, rfl, by rw [← txts_vals rr hy]; exact s, hz, rfl⟩
    · cases h
  | _ => cases h
theorem pe_joinRepl {a y z : Str} {e : Expr} {te : TE} {j jy jz} {cp cy cz apos pos apos2 pos2 : Pos} (he : PE X e te) (hyz : (y == z) = false := by decide) (hs : starEach [e] X.env = [(false, eval e X.env)] := by rfl)
    (hbase : attributeBase (.Constant (.str a) j cp) "join" X.env (eval (.Constant (.str a) j cp) X.env) = eval (.Constant (.str a) j cp) X.env := by rfl) (hline : (apos.endLine == pos.line) = true := by rfl)
    (hst : starEach [.Constant (.str y) jy cy, .Constant (.str z) jz cz] X.env = [(false, eval (.Constant (.str y) jy cy) X.env), (false, eval (.Constant (.str z) jz cz) X.env)] := by rfl)
    (hbase2 : attributeBase (.Call (.Attribute (.Constant (.str a) j cp) "join" apos) [e] [] pos) "replace" X.env (eval (.Call (.Attribute (.Constant (.str a) j cp) "join" apos) [e] [] pos) X.env) = eval (.Call (.Attribute (.Constant (.str a) j cp) "join" apos) [e] [] pos) X.env := by rfl) (hline2 : (apos2.endLine == pos2.line) = true := by rfl) :
    PE X (.Call (.Attribute (.Call (.Attribute (.Constant (.str a) j cp) "join" apos) [e] [] pos) "replace" apos2) [.Constant (.str y) jy cy, .Constant (.str z) jz cz] [] pos2)
      (fun σ H Q => te σ H fun v H1 => ∃ p, ∃ ys : List Str, v = .ref p ∧ SqL X.K H1 p (ys.map V.str) ∧ (ys.map (·.length)).sum + ys.length * a.length ≤ 16777216 ∧ (Txt.join a ys).length + ((Txt.join a ys).length + 1) * z.length ≤ 16777216 ∧ Q (.str (Txt.replace (Txt.join a ys) y z)) H1) := by
  refine ⟨fun pins s σ H Q I h => ?_⟩
  refine PySem.Call_method2 hbase2 hst hline2 ?_
  refine PySem.Call_method1 hbase hs hline (Calls.Constant_str ?_)
  refine ⟨"str", _, F.plainAttrs_str, F.slot_str_join, F.type_str_join, typeIs_str _ _ _, (fun _ e => nomatch e), ?_⟩
  have I0 : Inv X pins σ H { s with toks := s.toks + 1 } := I.tok _
  have r0 : RelV (V.str a) (Value.str a s.toks) := ⟨_, rfl⟩
  have J : wpAny (model X.prog X.w) X.A (callWith pos (.builtin "str.join") [.str a s.toks] [(false, eval e X.env)] []) (fun v s1 => ∃ w H1, Inv X pins σ H1 s1 ∧ RelV w v ∧ ∃ x, w = .str x ∧ x.length + (x.length + 1) * z.length ≤ 16777216 ∧ Q (.str (Txt.replace x y z)) H1) X.xe { s with toks := s.toks + 1 } := by
    refine Calls.callWith_builtin rfl (Calls.evalArgs_plain (Calls.spliced_cons ?_))
    exact thn (he.run pins _ σ H _ I0 h) fun u s2 ⟨y0, H2, I2, r2, p, ys, e1, h1, h2, h3, h4⟩ => Calls.spliced_nil (mt_join pins s2 σ H2 _ [y0] _ [u] _ I2 r0 (.cons r2 .nil) ⟨a, p, ys, rfl, by rw [e1], .inl h1, h2, ⟨_, rfl, h3, h4⟩⟩)
  refine wpAny_mono (PySem.wpAny_toks_of (n := 1) (by show 1 ≤ s.toks + 1; omega) J) (fun v s1 q => ?_) fun _ _ z => z.2
  obtain ⟨hk, v', H1, I1, r1, x, e1, hb, q⟩ := q
  subst e1
  obtain ⟨tx, e2⟩ := r1
  subst e2
  refine ⟨"str", _, PySem.F.plainAttrs_str, PySem.F.slot_str_replace, PySem.F.type_str_replace, typeIs_str _ _ _, (fun _ e => nomatch e), Calls.callWith_builtin rfl (Calls.evalArgs_plain (Calls.spliced_cons ?_))⟩
  refine Calls.Constant_str (Calls.spliced_cons (Calls.Constant_str (Calls.spliced_nil ?_)))
  exact PySem.SC.replace (by show s1.toks ≠ 0; omega) (by show s1.toks + 1 ≠ 0; omega) (by show s1.toks ≠ s1.toks + 1; omega) hyz hb fun t' k => ⟨.str (Txt.replace x y z), H1, I1.tok k, ⟨t', rfl⟩, q⟩
theorem se_joinRepl {a y z : Str} {e : Expr} {fe : EF} {n : Nat} {j jy jz} {cp cy cz apos pos apos2 pos2 : Pos} (he : SB X Γ e fe n Γ1) (hyz : (y == z) = false := by decide) (hs : starEach [e] X.env = [(false, eval e X.env)] := by rfl)
    (hbase : attributeBase (.Constant (.str a) j cp) "join" X.env (eval (.Constant (.str a) j cp) X.env) = eval (.Constant (.str a) j cp) X.env := by rfl) (hline : (apos.endLine == pos.line) = true := by rfl)
    (hst : starEach [.Constant (.str y) jy cy, .Constant (.str z) jz cz] X.env = [(false, eval (.Constant (.str y) jy cy) X.env), (false, eval (.Constant (.str z) jz cz) X.env)] := by rfl)
    (hbase2 : attributeBase (.Call (.Attribute (.Constant (.str a) j cp) "join" apos) [e] [] pos) "replace" X.env (eval (.Call (.Attribute (.Constant (.str a) j cp) "join" apos) [e] [] pos) X.env) = eval (.Call (.Attribute (.Constant (.str a) j cp) "join" apos) [e] [] pos) X.env := by rfl) (hline2 : (apos2.endLine == pos2.line) = true := by rfl) :
    SE X Γ (.Call (.Attribute (.Call (.Attribute (.Constant (.str a) j cp) "join" apos) [e] [] pos) "replace" apos2) [.Constant (.str y) jy cy, .Constant (.str z) jz cz] [] pos2) (e1 (replD y z) (e1 (joinD a) fe)) 0 Γ1 := by
  obtain ⟨t, p, q⟩ := he
  refine ⟨_, pe_joinRepl p hyz hs hbase hline hst hbase2 hline2, fun B σ env F H d Q rr e' k => ?_⟩
  obtain ⟨x2, hx2, hg2⟩ := Option.bind_eq_some_iff.mp e'
  obtain ⟨x, hx, hg⟩ := Option.bind_eq_some_iff.mp hx2
  refine q B σ env F H x _ rr hx fun v F1 H1 s1 t1 r1 b1 => ?_
  obtain ⟨p, ys, rfl, h1, h2, rfl⟩ := join_bw r1.fh b1 hg
  unfold replD at hg2
  simp only at hg2
  split at hg2
  · rename_i hz
    cases hg2
    exact ⟨p, ys, rfl, h1, h2, hz, k _ F1 H1 s1 t1 (r1.t0 (.str _))⟩
  · cases hg2
theorem st_inGl {a : Expr} {x : Str} {ds : List D} {pos p : Pos} {fa : EF} {na : Nat} (T : GlT X.K X.mg x ds) (hg : Gl X x) (ha : SB X Γ a fa na Γ1) (hdb : (x == ("__debug__" : Str)) = false := by decide) (hm : behindInMarks .In (.Name x p) = false := by rfl) :
    STs X Γ (.Compare a [.In] [.Name x p] pos) (tV (eInG false ds fa)) Γ1 := by
  obtain ⟨ta, pa, qa⟩ := ha
  obtain ⟨g, xs, hmg, hs, hf, hr⟩ := T.ex
  refine ⟨_, pt_cmpR op_in_seq pa (pe_glob (v := .ref g) hg hmg rfl hdb) hm, fun B σ env F H b Q rr e k => ?_⟩
  obtain ⟨d, e, hbo⟩ := Option.bind_eq_some_iff.mp e
  obtain ⟨d', hd, e⟩ := Option.bind_eq_some_iff.mp e
  refine qa B σ env F H d' _ rr hd fun v F1 H1 s1 t1 r1 b1 => ?_
  split at e
  · rename_i hfl
    cases e
    cases hbo
    have rp := b1.rp r1.fh na
    refine ⟨g, xs, rfl, .inr (hs H1), rp.flat hfl, hf, ?_⟩
    rw [inV_any rp hfl (hr H1) T.fl]
    exact ⟨_, rfl, k F1 H1 s1 t1 r1⟩
  · cases e
theorem st_notInGl {a : Expr} {x : Str} {ds : List D} {pos p : Pos} {fa : EF} {na : Nat} (T : GlT X.K X.mg x ds) (hg : Gl X x) (ha : SB X Γ a fa na Γ1) (hdb : (x == ("__debug__" : Str)) = false := by decide) (hm : behindInMarks .NotIn (.Name x p) = false := by rfl) :
    STs X Γ (.Compare a [.NotIn] [.Name x p] pos) (tV (eInG true ds fa)) Γ1 := by
  obtain ⟨ta, pa, qa⟩ := ha
  obtain ⟨g, xs, hmg, hs, hf, hr⟩ := T.ex
  refine ⟨_, pt_cmpR op_notIn_seq pa (pe_glob (v := .ref g) hg hmg rfl hdb) hm, fun B σ env F H b Q rr e k => ?_⟩
  obtain ⟨d, e, hbo⟩ := Option.bind_eq_some_iff.mp e
  obtain ⟨d', hd, e⟩ := Option.bind_eq_some_iff.mp e
  refine qa B σ env F H d' _ rr hd fun v F1 H1 s1 t1 r1 b1 => ?_
  split at e
  · rename_i hfl
    cases e
    cases hbo
    have rp := b1.rp r1.fh na
    refine ⟨g, xs, rfl, .inr (hs H1), rp.flat hfl, hf, ?_⟩
    rw [inV_any rp hfl (hr H1) T.fl]
    exact ⟨_, rfl, k F1 H1 s1 t1 r1⟩
  · cases e
end
def pIsBx : D → D → Option D
  | .bool a, .bool b => some (.bool (decide (a = b)))
  | .int _, .bool _ => some (.bool false)
  | .str _, .bool _ => some (.bool false)
  | .none, .bool _ => some (.bool false)
  | _, _ => none
def rIsBx : R2 := fun x y H Q => ∃ b, y = .bl b ∧ ((∃ a, x = .bl a ∧ Q (.bl (decide (a = b))) H) ∨ ((∃ i, x = .int i) ∨ (∃ s, x = .str s) ∨ x = .non) ∧ Q (.bl false) H)
theorem op_isBx {X : Cx} : OpR X (compareOp .Is) rIsBx := by
  intro pins s σ H x y v u Q I rx ry h
  obtain ⟨b, rfl, h⟩ := h
  cases (show u = Value.bool b from ry)
  rcases h with ⟨a, rfl, q⟩ | ⟨⟨i, rfl⟩ | ⟨z, rfl⟩ | rfl, q⟩
  · cases (show v = Value.bool a from rx)
    by_cases e : a = b
    · subst e
      exact wpAny_is_self rfl ⟨.bl true, H, I, rfl, by simpa using q⟩
    · exact wpAny_is_other rfl (fun z => e (Value.bool.inj z)) ⟨.bl false, H, I, rfl, by simpa [e] using q⟩
  · obtain ⟨t, rfl⟩ := (show ∃ t, v = Value.int i t from rx)
    exact wpAny_is_other rfl (fun z => by cases z) ⟨.bl false, H, I, rfl, q⟩
  · obtain ⟨t, rfl⟩ := (show ∃ t, v = Value.str z t from rx)
    exact wpAny_is_other rfl (fun z => by cases z) ⟨.bl false, H, I, rfl, q⟩
  · cases (show v = Value.none from rx)
    exact wpAny_is_other rfl (fun z => by cases z) ⟨.bl false, H, I, rfl, q⟩
section
variable {X : Cx} {Γ Γ1 Γ2 : Ctx} {K : PySem.W.Frag}
theorem s2_isBx {na nb : Nat} : S2 K rIsBx na nb 0 pIsBx := by
  intro F H x y da db d Q s a b e k
  match da, db, a, b, e with
  | .bool i, .bool j, a, b, e => cases e; exact ⟨j, b.vbl, .inl ⟨i, a.vbl, k _ F H (got_val s (.bl _))⟩⟩
  | .int i, .bool j, a, b, e => cases e; exact ⟨j, b.vbl, .inr ⟨.inl ⟨i, (a.rp s na).vint⟩, k _ F H (got_val s (.bl _))⟩⟩
  | .str i, .bool j, a, b, e => cases e; exact ⟨j, b.vbl, .inr ⟨.inr (.inl ⟨i, (a.rp s na).vstr⟩), k _ F H (got_val s (.bl _))⟩⟩
  | .none, .bool j, a, b, e => cases e; exact ⟨j, b.vbl, .inr ⟨.inr (.inr (by cases (a.rp s na); rfl)), k _ F H (got_val s (.bl _))⟩⟩
theorem st_isBx {a b : Expr} {pos : Pos} {fa fb : EF} {na nb : Nat} (ha : SB X Γ a fa na Γ1) (hb : SB X Γ1 b fb nb Γ2) (hm : behindInMarks .Is b = false := by rfl) : STs X Γ (.Compare a [.Is] [b] pos) (tV (e2 pIsBx fa fb)) Γ2 := st_cmp op_isBx s2_isBx ha hb hm
theorem se_isBx {a b : Expr} {pos : Pos} {fa fb : EF} {na nb : Nat} (ha : SB X Γ a fa na Γ1) (hb : SB X Γ1 b fb nb Γ2) (hm : behindInMarks .Is b = false := by rfl) : SE X Γ (.Compare a [.Is] [b] pos) (e2 pIsBx fa fb) 0 Γ2 := se_cmp op_isBx s2_isBx ha hb hm
end
end Pf

namespace My
open PySem L2 Pf
def topS (i : Nat) : Stmt := PySem.Challenge.pw_wardens_k04_operators_without_parenthese.main.body.getD i (.Pass ⟨0, 0, 0, 0⟩)
def k_LONGEST : List (Str × Int) := [(Str.ofString "word", 20), (Str.ofString "number", 7)]
def k_MINIMUM_AND_MAXIMUM : List (Str × Str) := [(Str.ofString "min", Str.ofString "least"), (Str.ofString "max", Str.ofString "greatest")]
def k_CALCULATIONS : List D := (["+", "-", "*"] : List Str).map .str
def k_COMPARISONS : List D := (["<", "<=", "=", "!=", ">=", ">"] : List Str).map .str
def k_PREFIXES : List D := (["not", "next", "all", "before", "can", "must", "once", "always"] : List Str).map .str
def k_RESERVED : List D := (["const", "part", "var", "from", "move", "when", "do", "sensor", "lossy", "define", "require", "implies", "or", "and", "since", "not", "next", "all", "can", "must", "before", "once", "always", "min", "max", "true", "false"] : List Str).map .str
def k_SIGNS : List D := ([":=", "..", "<=", ">=", "!=", "+-", "{", "}", "(", ")", "[", "]", ";", ":", ",", ".", "<", ">", "=", "+", "-", "*"] : List Str).map .str
def k_TIMED : List D := (["can", "must", "once", "always"] : List Str).map .str
class PC_Cursor where
  C : Addr
structure Txt [PC_Cursor] (w : World) (K : PySem.W.Frag) (mg : Str → Option Value) where
  a_words_of : Addr
  d_words_of : FuncData
  F_words_of : Fun K "words_of" "words_of" (topS 10) a_words_of d_words_of
  m_words_of : mg "words_of" = some (.ref a_words_of)
  b_words_of : Binds K d_words_of ["text"] []
  a_find_piece : Addr
  d_find_piece : FuncData
  F_find_piece : Fun K "find_piece" "find_piece" (topS 11) a_find_piece d_find_piece
  m_find_piece : mg "find_piece" = some (.ref a_find_piece)
  b_find_piece : Binds K d_find_piece ["text", "place"] []
  a_comment_length : Addr
  d_comment_length : FuncData
  F_comment_length : Fun K "comment_length" "comment_length" (topS 12) a_comment_length d_comment_length
  m_comment_length : mg "comment_length" = some (.ref a_comment_length)
  b_comment_length : Binds K d_comment_length ["text", "place"] []
  a_length_of : Addr
  d_length_of : FuncData
  F_length_of : Fun K "length_of" "length_of" (topS 13) a_length_of d_length_of
  m_length_of : mg "length_of" = some (.ref a_length_of)
  b_length_of : Binds K d_length_of ["text", "place", "characters"] []
  a_take_whole : Addr
  d_take_whole : FuncData
  F_take_whole : Fun K "take_whole" "take_whole" (topS 24) a_take_whole d_take_whole
  m_take_whole : mg "take_whole" = some (.ref a_take_whole)
  b_take_whole : KB1 K d_take_whole "cursor" "whole"
  a_level_below : Addr
  d_level_below : FuncData
  F_level_below : Fun K "level_below" "level_below" (topS 25) a_level_below d_level_below
  m_level_below : mg "level_below" = some (.ref a_level_below)
  b_level_below : Binds K d_level_below ["cursor", "level"] []
  a_take_expression : Addr
  d_take_expression : FuncData
  F_take_expression : Fun K "take_expression" "take_expression" (topS 26) a_take_expression d_take_expression
  m_take_expression : mg "take_expression" = some (.ref a_take_expression)
  b_take_expression : Binds K d_take_expression ["cursor", "level"] []
  a_take_choice : Addr
  d_take_choice : FuncData
  F_take_choice : Fun K "take_choice" "take_choice" (topS 27) a_take_choice d_take_choice
  m_take_choice : mg "take_choice" = some (.ref a_take_choice)
  b_take_choice : Binds K d_take_choice ["cursor", "level"] []
  a_take_union : Addr
  d_take_union : FuncData
  F_take_union : Fun K "take_union" "take_union" (topS 28) a_take_union d_take_union
  m_take_union : mg "take_union" = some (.ref a_take_union)
  b_take_union : Binds K d_take_union ["cursor", "level"] []
  a_take_past : Addr
  d_take_past : FuncData
  F_take_past : Fun K "take_past" "take_past" (topS 29) a_take_past d_take_past
  m_take_past : mg "take_past" = some (.ref a_take_past)
  b_take_past : Binds K d_take_past ["cursor", "level"] []
  a_take_joined : Addr
  d_take_joined : FuncData
  F_take_joined : Fun K "take_joined" "take_joined" (topS 30) a_take_joined d_take_joined
  m_take_joined : mg "take_joined" = some (.ref a_take_joined)
  b_take_joined : Binds K d_take_joined ["cursor", "level", "signs", "take_operand"] []
  a_take_prefix : Addr
  d_take_prefix : FuncData
  F_take_prefix : Fun K "take_prefix" "take_prefix" (topS 31) a_take_prefix d_take_prefix
  m_take_prefix : mg "take_prefix" = some (.ref a_take_prefix)
  b_take_prefix : Binds K d_take_prefix ["cursor", "level"] []
  a_take_limit : Addr
  d_take_limit : FuncData
  F_take_limit : Fun K "take_limit" "take_limit" (topS 32) a_take_limit d_take_limit
  m_take_limit : mg "take_limit" = some (.ref a_take_limit)
  b_take_limit : Binds K d_take_limit ["cursor"] []
  a_take_comparison : Addr
  d_take_comparison : FuncData
  F_take_comparison : Fun K "take_comparison" "take_comparison" (topS 33) a_take_comparison d_take_comparison
  m_take_comparison : mg "take_comparison" = some (.ref a_take_comparison)
  b_take_comparison : Binds K d_take_comparison ["cursor", "level"] []
  a_take_sum : Addr
  d_take_sum : FuncData
  F_take_sum : Fun K "take_sum" "take_sum" (topS 34) a_take_sum d_take_sum
  m_take_sum : mg "take_sum" = some (.ref a_take_sum)
  b_take_sum : Binds K d_take_sum ["cursor", "level"] []
  a_take_product : Addr
  d_take_product : FuncData
  F_take_product : Fun K "take_product" "take_product" (topS 35) a_take_product d_take_product
  m_take_product : mg "take_product" = some (.ref a_take_product)
  b_take_product : Binds K d_take_product ["cursor", "level"] []
  a_take_negation : Addr
  d_take_negation : FuncData
  F_take_negation : Fun K "take_negation" "take_negation" (topS 36) a_take_negation d_take_negation
  m_take_negation : mg "take_negation" = some (.ref a_take_negation)
  b_take_negation : Binds K d_take_negation ["cursor", "level"] []
  a_take_atom : Addr
  d_take_atom : FuncData
  F_take_atom : Fun K "take_atom" "take_atom" (topS 37) a_take_atom d_take_atom
  m_take_atom : mg "take_atom" = some (.ref a_take_atom)
  b_take_atom : Binds K d_take_atom ["cursor", "level"] []
  a_take_pair : Addr
  d_take_pair : FuncData
  F_take_pair : Fun K "take_pair" "take_pair" (topS 38) a_take_pair d_take_pair
  m_take_pair : mg "take_pair" = some (.ref a_take_pair)
  b_take_pair : Binds K d_take_pair ["cursor", "level"] []
  a_take_leaf : Addr
  d_take_leaf : FuncData
  F_take_leaf : Fun K "take_leaf" "take_leaf" (topS 39) a_take_leaf d_take_leaf
  m_take_leaf : mg "take_leaf" = some (.ref a_take_leaf)
  b_take_leaf : Binds K d_take_leaf ["cursor"] []
  a_parse_expression : Addr
  d_parse_expression : FuncData
  F_parse_expression : Fun K "parse_expression" "parse_expression" (topS 41) a_parse_expression d_parse_expression
  m_parse_expression : mg "parse_expression" = some (.ref a_parse_expression)
  b_parse_expression : KB1 K d_parse_expression "text" "whole"
  a__law_cell : Addr
  d__law_cell : FuncData
  F__law_cell : Fun K "_law_cell" "_law_cell" (topS 43) a__law_cell d__law_cell
  m__law_cell : mg "_law_cell" = some (.ref a__law_cell)
  b__law_cell : Binds K d__law_cell ["script", "k"] []
  a__law_draw : Addr
  d__law_draw : FuncData
  F__law_draw : Fun K "_law_draw" "_law_draw" (topS 44) a__law_draw d__law_draw
  m__law_draw : mg "_law_draw" = some (.ref a__law_draw)
  b__law_draw : Binds K d__law_draw ["script", "k", "sizes"] []
  a__law_alike : Addr
  d__law_alike : FuncData
  F__law_alike : Fun K "_law_alike" "_law_alike" (topS 45) a__law_alike d__law_alike
  m__law_alike : mg "_law_alike" = some (.ref a__law_alike)
  b__law_alike : Binds K d__law_alike ["actual", "expected"] []
  a__law_row : Addr
  d__law_row : FuncData
  F__law_row : Fun K "_law_row" "_law_row" (topS 46) a__law_row d__law_row
  m__law_row : mg "_law_row" = some (.ref a__law_row)
  b__law_row : Binds K d__law_row ["script"] []
  a__law_split : Addr
  d__law_split : FuncData
  F__law_split : Fun K "_law_split" "_law_split" (topS 47) a__law_split d__law_split
  m__law_split : mg "_law_split" = some (.ref a__law_split)
  b__law_split : Binds K d__law_split ["words", "signs", "last"] []
  a__law_tree : Addr
  d__law_tree : FuncData
  F__law_tree : Fun K "_law_tree" "_law_tree" (topS 48) a__law_tree d__law_tree
  m__law_tree : mg "_law_tree" = some (.ref a__law_tree)
  b__law_tree : Binds K d__law_tree ["words", "level"] []
  a_law : Addr
  d_law : FuncData
  F_law : Fun K "law" "law" (topS 49) a_law d_law
  m_law : mg "law" = some (.ref a_law)
  b_law : Binds K d_law ["script"] []
  rc_Cursor : Cls K PC_Cursor.C
  m_Cursor : mg "Cursor" = some (.ref PC_Cursor.C)
  n_Cursor_words : NoAttr K PC_Cursor.C "words"
  n_Cursor_taken : NoAttr K PC_Cursor.C "taken"
  a_Cursor___init__ : Addr
  d_Cursor___init__ : FuncData
  F_Cursor___init__ : Fun K "__init__" "Cursor.__init__" (inClass (topS 15) 0) a_Cursor___init__ d_Cursor___init__
  b_Cursor___init__ : Binds K d_Cursor___init__ ["self", "text"] []
  a_Cursor_kind_here : Addr
  d_Cursor_kind_here : FuncData
  F_Cursor_kind_here : Fun K "kind_here" "Cursor.kind_here" (inClass (topS 15) 1) a_Cursor_kind_here d_Cursor_kind_here
  b_Cursor_kind_here : Binds K d_Cursor_kind_here ["self"] []
  me_Cursor_kind_here : Meth K PC_Cursor.C "kind_here" a_Cursor_kind_here
  a_Cursor_word_here : Addr
  d_Cursor_word_here : FuncData
  F_Cursor_word_here : Fun K "word_here" "Cursor.word_here" (inClass (topS 15) 2) a_Cursor_word_here d_Cursor_word_here
  b_Cursor_word_here : Binds K d_Cursor_word_here ["self"] []
  me_Cursor_word_here : Meth K PC_Cursor.C "word_here" a_Cursor_word_here
  a_Cursor_take : Addr
  d_Cursor_take : FuncData
  F_Cursor_take : Fun K "take" "Cursor.take" (inClass (topS 15) 5) a_Cursor_take d_Cursor_take
  b_Cursor_take : Binds K d_Cursor_take ["self"] []
  me_Cursor_take : Meth K PC_Cursor.C "take" a_Cursor_take
  a_Cursor_take_if : Addr
  d_Cursor_take_if : FuncData
  F_Cursor_take_if : Fun K "take_if" "Cursor.take_if" (inClass (topS 15) 6) a_Cursor_take_if d_Cursor_take_if
  b_Cursor_take_if : Binds K d_Cursor_take_if ["self", "word"] []
  me_Cursor_take_if : Meth K PC_Cursor.C "take_if" a_Cursor_take_if
  a_Cursor_take_only : Addr
  d_Cursor_take_only : FuncData
  F_Cursor_take_only : Fun K "take_only" "Cursor.take_only" (inClass (topS 15) 7) a_Cursor_take_only d_Cursor_take_only
  b_Cursor_take_only : Binds K d_Cursor_take_only ["self", "word"] []
  me_Cursor_take_only : Meth K PC_Cursor.C "take_only" a_Cursor_take_only
  a_Cursor_name_is_here : Addr
  d_Cursor_name_is_here : FuncData
  F_Cursor_name_is_here : Fun K "name_is_here" "Cursor.name_is_here" (inClass (topS 15) 8) a_Cursor_name_is_here d_Cursor_name_is_here
  b_Cursor_name_is_here : Binds K d_Cursor_name_is_here ["self"] []
  me_Cursor_name_is_here : Meth K PC_Cursor.C "name_is_here" a_Cursor_name_is_here
  a_Cursor_take_name : Addr
  d_Cursor_take_name : FuncData
  F_Cursor_take_name : Fun K "take_name" "Cursor.take_name" (inClass (topS 15) 9) a_Cursor_take_name d_Cursor_take_name
  b_Cursor_take_name : Binds K d_Cursor_take_name ["self"] []
  me_Cursor_take_name : Meth K PC_Cursor.C "take_name" a_Cursor_take_name
  a_Cursor_take_number : Addr
  d_Cursor_take_number : FuncData
  F_Cursor_take_number : Fun K "take_number" "Cursor.take_number" (inClass (topS 15) 10) a_Cursor_take_number d_Cursor_take_number
  b_Cursor_take_number : Binds K d_Cursor_take_number ["self"] []
  me_Cursor_take_number : Meth K PC_Cursor.C "take_number" a_Cursor_take_number
  mk_Cursor : Mk K PC_Cursor.C a_Cursor___init__
  g_CALCULATIONS : GlT K mg "CALCULATIONS" k_CALCULATIONS
  g_COMPARISONS : GlT K mg "COMPARISONS" k_COMPARISONS
  g_PREFIXES : GlT K mg "PREFIXES" k_PREFIXES
  g_RESERVED : GlT K mg "RESERVED" k_RESERVED
  g_SIGNS : GlT K mg "SIGNS" k_SIGNS
  g_TIMED : GlT K mg "TIMED" k_TIMED
  c_DEEPEST : ∃ t, mg "DEEPEST" = some (Value.int 12 t)
  c_HIGHEST : ∃ t, mg "HIGHEST" = some (Value.int 30 t)
  c_BLANKS : ∃ t, mg "BLANKS" = some (Value.str (Str.ofString " \t\n") t)
  c_DIGITS : ∃ t, mg "DIGITS" = some (Value.str (Str.ofString "0123456789") t)
  c_LETTERS : ∃ t, mg "LETTERS" = some (Value.str (Str.ofString "abcdefghijklmnopqrstuvwxyzABCDEFGHIJKLMNOPQRSTUVWXYZ_") t)
  g_LONGEST : GlD K w mg "LONGEST" k_LONGEST
  g_MINIMUM_AND_MAXIMUM : GlDS K w mg "MINIMUM_AND_MAXIMUM" k_MINIMUM_AND_MAXIMUM
  z_bool : mg "bool" = none
  z_int : mg "int" = none
  z_isinstance : mg "isinstance" = none
  z_len : mg "len" = none
  z_list : mg "list" = none
  z_max : mg "max" = none
  z_range : mg "range" = none
  z_str : mg "str" = none
  z_tuple : mg "tuple" = none
noncomputable section
variable {P : Program} {w : World} {K : PySem.W.Frag} {mg : Str → Option Value} {base : Heap}
def B_comment_length : SF :=
  (sSeq (sSet 2 (eM (mSI fun x y i => .int (Txt.find3 x y i)) (eV 0) (aC (eC (.str (Str.ofString "\n"))) (aC (eV 1) aN))))
  (sSeq (sIf (tV (e2 pEq (eV 2) (e1 pNeg (eC (.int 1))))) (sSet 2 (eL lenD (aC (eV 0) aN)))
  sSkip)
  (sRet (e2 pSub (eV 2) (eV 1)))))
def F_comment_length : List D → Option D := runF 0 2 3 B_comment_length
theorem sc_comment_length : FnScope ["text", "place", "stop"] ["text", "place"] (defScope (topS 12)) := ⟨rfl, rfl, rfl, by decide +kernel, rfl, by decide +kernel, by decide +kernel⟩
theorem ok_comment_length [PC_Cursor] (T : Txt w K mg) : FnOk P w K mg base CX0 1 T.a_comment_length T.d_comment_length ["text", "place"] (Pure K 2 0 F_comment_length) := by
  have sc := sc_comment_length
  exact fn_pure (Γ' := []) T.F_comment_length sc_comment_length rfl fun cdv A outer s H E hr =>
    (ss_cons (ss_set 2 (se_mS PySem.F.slot_str_find PySem.F.type_str_find mt_find3 (sm_SI (u := fun x y i => .int (Txt.find3 x y i)) fun _ _ _ _ _ => .int _) (sb_var 0 rfl) (sa_cons (SE.sb se_str) (sa_cons (sb_var 1 rfl) sa_nil))) sc.nd)
  (ss_cons (ss_if (st_eq (hu64 hr) (sb_var 2 rfl) (SE.sb (se_neg (SE.sb se_int)))) (SSs.sub (Γ' := [some 0, some 0, some 0]) (ss_one (ss_set 2 (se_len rfl T.z_len (sb_var 0 rfl)) sc.nd)) rfl)
  (SSs.sub (Γ' := [some 0, some 0, some 0]) ss_nil rfl))
  (ss_one (ss_ret (se_sub (sb_var 2 rfl) (sb_var 1 rfl)) (by decide)))))
def L_length_of_1 : SF :=
  (sSet 3 (e2 (iOp0 fun a b => .int (a + b)) (eV 3) (eC (.int 1))))
def B_length_of : SF :=
  (sSeq (sSet 3 (eV 1))
  (sSeq (sWhile (tAndF (tV (e2 pLt (eV 3) (eL lenD (aC (eV 0) aN)))) (tV (e2 pIn (e2 pIx (eV 0) (eV 3)) (eV 2)))) L_length_of_1)
  (sRet (e2 pSub (eV 3) (eV 1)))))
def F_length_of : List D → Option D := runF 0 3 4 B_length_of
theorem sc_length_of : FnScope ["text", "place", "characters", "stop"] ["text", "place", "characters"] (defScope (topS 13)) := ⟨rfl, rfl, rfl, by decide +kernel, rfl, by decide +kernel, by decide +kernel⟩
theorem ok_length_of [PC_Cursor] (T : Txt w K mg) : FnOk P w K mg base CX0 1 T.a_length_of T.d_length_of ["text", "place", "characters"] (Pure K 3 0 F_length_of) := by
  have sc := sc_length_of
  exact fn_pure (Γ' := []) T.F_length_of sc_length_of rfl fun cdv A outer s H E hr =>
    (ss_cons (ss_set 3 (SB.se (sb_var 1 rfl)) sc.nd)
  (ss_cons (ss_while (Γ' := [some 0, some 0, some 0, some 0]) [some 0, some 0, some 0, some 0] PySem.PassesOwn.never rfl (STw.ts (sw_and (st_lt (sb_var 3 rfl) (SE.sb (se_len rfl T.z_len (sb_var 0 rfl)))) (sw_and1 (st_in (hu65 hr) (SE.sb (se_ixA (sb_var 0 rfl) (sb_var 3 rfl))) (sb_var 2 rfl)))))
  (SSs.sub (Γ' := [some 0, some 0, some 0, some 0]) (ss_one (ss_aug ip_add sc.nd rfl se_int)) rfl) rfl)
  (ss_one (ss_ret (se_sub (sb_var 3 rfl) (sb_var 1 rfl)) (by decide)))))
def B_level_below : SF :=
  (sSeq (sIf (tV (e2 pEq (eV 1) (eC (.int 12)))) (fun _ => none)
  sSkip)
  (sRet (e2 pAdd (eV 1) (eC (.int 1)))))
def F_level_below : List D → Option D := runF 0 2 2 B_level_below
theorem sc_level_below : FnScope ["cursor", "level"] ["cursor", "level"] (defScope (topS 25)) := ⟨rfl, rfl, rfl, by decide +kernel, rfl, by decide +kernel, by decide +kernel⟩
theorem ok_level_below [PC_Cursor] (T : Txt w K mg) : FnOk P w K mg base CX0 1 T.a_level_below T.d_level_below ["cursor", "level"] (Pure K 2 0 F_level_below) := by
  have sc := sc_level_below
  exact fn_pure (Γ' := []) T.F_level_below sc_level_below rfl fun cdv A outer s H E hr =>
    (ss_cons (ss_if (st_eq (hu64 hr) (sb_var 1 rfl) (SE.sb (se_glI T.c_DEEPEST rfl))) (ss_one ss_never)
  (SSs.sub (Γ' := [some 0, some 0]) ss_nil rfl))
  (ss_one (ss_ret (se_add (sb_var 1 rfl) (SE.sb se_int)) (by decide))))
def B__law_cell : SF :=
  (sSeq (sIf (tV (e2 pLt (eV 1) (eL lenD (aC (eV 0) aN)))) (sRet (e2 pIx (eV 0) (eV 1)))
  sSkip)
  (sRet (eC (.int 0))))
def F__law_cell : List D → Option D := runF 0 2 2 B__law_cell
theorem sc__law_cell : FnScope ["script", "k"] ["script", "k"] (defScope (topS 43)) := ⟨rfl, rfl, rfl, by decide +kernel, rfl, by decide +kernel, by decide +kernel⟩
theorem ok__law_cell [PC_Cursor] (T : Txt w K mg) : FnOk P w K mg base CX0 1 T.a__law_cell T.d__law_cell ["script", "k"] (Pure K 2 0 F__law_cell) := by
  have sc := sc__law_cell
  exact fn_pure (Γ' := []) T.F__law_cell sc__law_cell rfl fun cdv A outer s H E hr =>
    (ss_cons (ss_if (st_lt (sb_var 1 rfl) (SE.sb (se_len rfl T.z_len (sb_var 0 rfl)))) (ss_one (ss_ret (se_ixA (sb_var 0 rfl) (sb_var 1 rfl)) (by decide)))
  (SSs.sub (Γ' := [some 0, some 0]) ss_nil rfl))
  (ss_one (ss_ret se_int (by decide))))
def L__law_split_1 : SF :=
  (sIf (tAndF (tV (e2 pIn (e2 pIx (eV 0) (eV 4)) (eV 1))) (tOrF (tT (eV 2)) (tV (e2 pLt (eV 3) (eC (.int 0)))))) (sSet 3 (eV 4))
  sSkip)
def B__law_split : SF :=
  (sSeq (sSet 3 (e1 pNeg (eC (.int 1))))
  (sSeq (sForE (aRng1 (aC (eL lenD (aC (eV 0) aN)) aN)) (gN 4) L__law_split_1)
  (sRet (eV 3))))
def F__law_split : List D → Option D := runF 0 3 5 B__law_split
theorem sc__law_split : FnScope ["words", "signs", "last", "found", "k"] ["words", "signs", "last"] (defScope (topS 47)) := ⟨rfl, rfl, rfl, by decide +kernel, rfl, by decide +kernel, by decide +kernel⟩
theorem ok__law_split [PC_Cursor] (T : Txt w K mg) : FnOk P w K mg base CX0 1 T.a__law_split T.d__law_split ["words", "signs", "last"] (Pure K 3 0 F__law_split) := by
  have sc := sc__law_split
  exact fn_pure (Γ' := []) T.F__law_split sc__law_split rfl fun cdv A outer s H E hr =>
    (ss_cons (ss_set 3 (se_neg (SE.sb se_int)) sc.nd)
  (ss_cons (ss_for [some 0, some 0, some 0, some 0, none] PySem.PassesOwn.never rfl (si_range1 rfl T.z_range (SE.sb (se_len rfl T.z_len (sb_var 0 rfl)))) rfl (sg_name 4 sc.nd)
  (SSs.sub (Γ' := [some 0, some 0, some 0, some 0, none]) (ss_one (ss_if (STw.ts (sw_and (st_in (hu65 hr) (SE.sb (se_ixA (sb_var 0 rfl) (sb_var 4 rfl))) (sb_var 1 rfl)) (sw_and1 (STw.ts (sw_or (st_truth (sb_var 2 rfl)) (sw_or1 (st_lt (sb_var 3 rfl) (SE.sb se_int)))))))) (SSs.sub (Γ' := [some 0, some 0, some 0, some 0, some 0]) (ss_one (ss_set 3 (SB.se (sb_var 4 rfl)) sc.nd)) rfl)
  (SSs.sub (Γ' := [some 0, some 0, some 0, some 0, some 0]) ss_nil rfl))) rfl))
  (ss_one (ss_ret (SB.se (sb_var 3 rfl)) (by decide)))))
def B_Cursor_kind_here [PC_Cursor] : SF :=
  (sRet (e2 pIx (e2 pIx (e1 (pFld PC_Cursor.C "words") (eV 0)) (e1 (pFld PC_Cursor.C "taken") (eV 0))) (eC (.int 0))))
def F_Cursor_kind_here [PC_Cursor] : List D → Option D := runF 0 1 1 B_Cursor_kind_here
theorem sc_Cursor_kind_here : FnScope ["self"] ["self"] (defScope ((inClass (topS 15) 1))) := ⟨rfl, rfl, rfl, by decide +kernel, rfl, by decide +kernel, by decide +kernel⟩
theorem ok_Cursor_kind_here [PC_Cursor] (T : Txt w K mg) : FnOk P w K mg base CX0 1 T.a_Cursor_kind_here T.d_Cursor_kind_here ["self"] (Pure K 1 0 F_Cursor_kind_here) := by
  have sc := sc_Cursor_kind_here
  exact fn_pure (Γ' := []) T.F_Cursor_kind_here sc_Cursor_kind_here rfl fun cdv A outer s H E hr =>
    (ss_one (ss_ret (se_ixA (SE.sb (se_ixA (sb_fld T.rc_Cursor T.n_Cursor_words (sb_var 0 rfl)) (sb_fld T.rc_Cursor T.n_Cursor_taken (sb_var 0 rfl)))) (SE.sb se_int)) (by decide)))
def B_Cursor_word_here [PC_Cursor] : SF :=
  (sRet (e2 pIx (e2 pIx (e1 (pFld PC_Cursor.C "words") (eV 0)) (e1 (pFld PC_Cursor.C "taken") (eV 0))) (eC (.int 1))))
def F_Cursor_word_here [PC_Cursor] : List D → Option D := runF 0 1 1 B_Cursor_word_here
theorem sc_Cursor_word_here : FnScope ["self"] ["self"] (defScope ((inClass (topS 15) 2))) := ⟨rfl, rfl, rfl, by decide +kernel, rfl, by decide +kernel, by decide +kernel⟩
theorem ok_Cursor_word_here [PC_Cursor] (T : Txt w K mg) : FnOk P w K mg base CX0 1 T.a_Cursor_word_here T.d_Cursor_word_here ["self"] (Pure K 1 0 F_Cursor_word_here) := by
  have sc := sc_Cursor_word_here
  exact fn_pure (Γ' := []) T.F_Cursor_word_here sc_Cursor_word_here rfl fun cdv A outer s H E hr =>
    (ss_one (ss_ret (se_ixA (SE.sb (se_ixA (sb_fld T.rc_Cursor T.n_Cursor_words (sb_var 0 rfl)) (sb_fld T.rc_Cursor T.n_Cursor_taken (sb_var 0 rfl)))) (SE.sb se_int)) (by decide)))
def L_find_piece_1 : SF :=
  (sIf (tT (eM (mSI fun x y i => .bool (Txt.startswith3 x y i)) (eV 0) (aC (eV 3) (aC (eV 1) aN)))) (sRet (eTup (aC (eC (.str (Str.ofString "sign"))) (aC (eL lenD (aC (eV 3) aN)) aN))))
  sSkip)
def B_find_piece : SF :=
  (sSeq (sSet 2 (e2 pIx (eV 0) (eV 1)))
  (sSeq (sIf (tV (e2 pIn (eV 2) (eC (.str (Str.ofString " \t\n"))))) (sRet (eTup (aC (eC (.str (Str.ofString "blank"))) (aC (eC (.int 1)) aN))))
  sSkip)
  (sSeq (sIf (tV (e2 pEq (eV 2) (eC (.str (Str.ofString "#"))))) (sRet (eTup (aC (eC (.str (Str.ofString "blank"))) (aC (eL F_comment_length (aC (eV 0) (aC (eV 1) aN))) aN))))
  sSkip)
  (sSeq (sIf (tV (e2 pIn (eV 2) (eC (.str (Str.ofString "abcdefghijklmnopqrstuvwxyzABCDEFGHIJKLMNOPQRSTUVWXYZ_"))))) (sRet (eTup (aC (eC (.str (Str.ofString "word"))) (aC (eL F_length_of (aC (eV 0) (aC (eV 1) (aC (e2 pAdd (eC (.str (Str.ofString "abcdefghijklmnopqrstuvwxyzABCDEFGHIJKLMNOPQRSTUVWXYZ_"))) (eC (.str (Str.ofString "0123456789")))) aN)))) aN))))
  sSkip)
  (sSeq (sIf (tV (e2 pIn (eV 2) (eC (.str (Str.ofString "0123456789"))))) (sRet (eTup (aC (eC (.str (Str.ofString "number"))) (aC (eL F_length_of (aC (eV 0) (aC (eV 1) (aC (eC (.str (Str.ofString "0123456789"))) aN)))) aN))))
  sSkip)
  (sSeq (sForE (aGl k_SIGNS) (gN 3) L_find_piece_1)
  (sRet (eTup (aC (eC (.str (Str.ofString "unknown"))) (aC (eC (.int 1)) aN))))))))))
def F_find_piece : List D → Option D := runF 1 2 4 B_find_piece
theorem sc_find_piece : FnScope ["text", "place", "first", "sign"] ["text", "place"] (defScope (topS 11)) := ⟨rfl, rfl, rfl, by decide +kernel, rfl, by decide +kernel, by decide +kernel⟩
theorem ok_find_piece [PC_Cursor] (T : Txt w K mg) : FnOk P w K mg base CX0 2 T.a_find_piece T.d_find_piece ["text", "place"] (Pure K 2 1 F_find_piece) := by
  have sc := sc_find_piece
  exact fn_pure (Γ' := []) T.F_find_piece sc_find_piece rfl fun cdv A outer s H E hr =>
    (ss_cons (ss_set 2 (se_ixA (sb_var 0 rfl) (sb_var 1 rfl)) sc.nd)
  (ss_cons (ss_if (st_in (hu65 hr) (sb_var 2 rfl) (SE.sb (se_glS T.c_BLANKS rfl))) (ss_one (ss_ret (se_tup1 (se_tup (sa_cons (SE.sb se_str) (sa_cons (SE.sb se_int) sa_nil)))) (by decide)))
  (SSs.sub (Γ' := [some 0, some 0, some 0, none]) ss_nil rfl))
  (ss_cons (ss_if (st_eq (hu64 hr) (sb_var 2 rfl) (SE.sb se_str)) (ss_one (ss_ret (se_tup1 (se_tup (sa_cons (SE.sb se_str) (sa_cons (SE.sb (se_call (ok_comment_length T) (hr.mono (by decide)) rfl T.m_comment_length T.F_comment_length.kp T.b_comment_length (sa_cons (SE.sb (SB.se (sb_var 0 rfl))) (sa_cons (SE.sb (SB.se (sb_var 1 rfl))) sa_nil)))) sa_nil)))) (by decide)))
  (SSs.sub (Γ' := [some 0, some 0, some 0, none]) ss_nil rfl))
  (ss_cons (ss_if (st_in (hu65 hr) (sb_var 2 rfl) (SE.sb (se_glS T.c_LETTERS rfl))) (ss_one (ss_ret (se_tup1 (se_tup (sa_cons (SE.sb se_str) (sa_cons (SE.sb (se_call (ok_length_of T) (hr.mono (by decide)) rfl T.m_length_of T.F_length_of.kp T.b_length_of (sa_cons (SE.sb (SB.se (sb_var 0 rfl))) (sa_cons (SE.sb (SB.se (sb_var 1 rfl))) (sa_cons (SE.sb (se_add (SE.sb (se_glS T.c_LETTERS rfl)) (SE.sb (se_glS T.c_DIGITS rfl)))) sa_nil))))) sa_nil)))) (by decide)))
  (SSs.sub (Γ' := [some 0, some 0, some 0, none]) ss_nil rfl))
  (ss_cons (ss_if (st_in (hu65 hr) (sb_var 2 rfl) (SE.sb (se_glS T.c_DIGITS rfl))) (ss_one (ss_ret (se_tup1 (se_tup (sa_cons (SE.sb se_str) (sa_cons (SE.sb (se_call (ok_length_of T) (hr.mono (by decide)) rfl T.m_length_of T.F_length_of.kp T.b_length_of (sa_cons (SE.sb (SB.se (sb_var 0 rfl))) (sa_cons (SE.sb (SB.se (sb_var 1 rfl))) (sa_cons (SE.sb (se_glS T.c_DIGITS rfl)) sa_nil))))) sa_nil)))) (by decide)))
  (SSs.sub (Γ' := [some 0, some 0, some 0, none]) ss_nil rfl))
  (ss_cons (ss_for [some 0, some 0, some 0, none] PySem.PassesOwn.never rfl (si_glT T.g_SIGNS rfl) rfl (sg_name 3 sc.nd)
  (SSs.sub (Γ' := [some 0, some 0, some 0, none]) (ss_one (ss_if (st_truth (SE.sb (se_mS PySem.F.slot_str_startswith PySem.F.type_str_startswith mt_startswith3 (sm_SI (u := fun x y i => .bl (Txt.startswith3 x y i)) fun _ _ _ _ _ => .bl _) (sb_var 0 rfl) (sa_cons (sb_var 3 rfl) (sa_cons (sb_var 1 rfl) sa_nil))))) (ss_one (ss_ret (se_tup1 (se_tup (sa_cons (SE.sb se_str) (sa_cons (SE.sb (se_len rfl T.z_len (sb_var 3 rfl))) sa_nil)))) (by decide)))
  (SSs.sub (Γ' := [some 0, some 0, some 0, some 0]) ss_nil rfl))) rfl))
  (ss_one (ss_ret (se_tup1 (se_tup (sa_cons (SE.sb se_str) (sa_cons (SE.sb se_int) sa_nil)))) (by decide)))))))))
def L__law_draw_1 : SF :=
  (sSeq (sApp 4 (e2 pMod (eV 3) (eV 7)))
  (sSet 3 (e2 pDiv (eV 3) (eV 7))))
def L__law_draw_2 : SF :=
  (sSeq (sSet 5 (e2 pMod (e2 pAdd (e2 pAdd (e2 pMul (eV 5) (eC (.int 48271))) (eC (.int 11))) (eV 6)) (eC (.int 2147483647))))
  (sSeq (sSet 5 (e2 pMod (e2 pAdd (e2 pMul (eV 5) (eC (.int 69621))) (eC (.int 3))) (eC (.int 2147483647))))
  (sApp 4 (e2 pMod (e2 pDiv (eV 5) (eC (.int 7))) (e2 pIx (eV 2) (eV 6))))))
def B__law_draw : SF :=
  (sSeq (sSet 3 (eL F__law_cell (aC (eV 0) (aC (eV 1) aN))))
  (sSeq (sIf (tV (e2 pLt (eV 3) (eC (.int 0)))) (sSet 3 (e1 pNeg (eV 3)))
  sSkip)
  (sSeq (sSet 4 (eLst aN))
  (sSeq (sIf (tV (e2 pGe (eV 3) (e2 pPow (eC (.int 10)) (eC (.int 18))))) (sSeq (sSet 3 (e2 pSub (eV 3) (e2 pPow (eC (.int 10)) (eC (.int 18)))))
  (sSeq (sForE (aSeq (eV 2)) (gN 7) L__law_draw_1)
  (sRet (eV 4))))
  sSkip)
  (sSeq (sSet 5 (e2 pMod (e2 pAdd (e2 pAdd (eV 3) (eC (.int 1))) (e2 pMul (eC (.int 31)) (eV 1))) (eC (.int 2147483647))))
  (sSeq (sForE (aRng1 (aC (eL lenD (aC (eV 2) aN)) aN)) (gN 6) L__law_draw_2)
  (sRet (eV 4))))))))
def F__law_draw : List D → Option D := runF 1 3 8 B__law_draw
theorem sc__law_draw : FnScope ["script", "k", "sizes", "cell", "drawn", "mixed", "j", "size"] ["script", "k", "sizes"] (defScope (topS 44)) := ⟨rfl, rfl, rfl, by decide +kernel, rfl, by decide +kernel, by decide +kernel⟩
theorem ok__law_draw [PC_Cursor] (T : Txt w K mg) : FnOk P w K mg base CX0 2 T.a__law_draw T.d__law_draw ["script", "k", "sizes"] (Pure K 3 1 F__law_draw) := by
  have sc := sc__law_draw
  exact fn_pure (Γ' := []) T.F__law_draw sc__law_draw rfl fun cdv A outer s H E hr =>
    (ss_cons (ss_set 3 (se_call (ok__law_cell T) (hr.mono (by decide)) rfl T.m__law_cell T.F__law_cell.kp T.b__law_cell (sa_cons (SE.sb (SB.se (sb_var 0 rfl))) (sa_cons (SE.sb (SB.se (sb_var 1 rfl))) sa_nil))) sc.nd)
  (ss_cons (ss_if (st_lt (sb_var 3 rfl) (SE.sb se_int)) (SSs.sub (Γ' := [some 0, some 0, some 0, some 0, none, none, none, none]) (ss_one (ss_set 3 (se_neg (sb_var 3 rfl)) sc.nd)) rfl)
  (SSs.sub (Γ' := [some 0, some 0, some 0, some 0, none, none, none, none]) ss_nil rfl))
  (ss_cons (ss_set 4 (se_lst sa_nil) sc.nd)
  (ss_cons (ss_if (st_ge (sb_var 3 rfl) (SE.sb (se_pow (SE.sb se_int) (SE.sb se_int)))) (ss_cons (ss_set 3 (se_sub (sb_var 3 rfl) (SE.sb (se_pow (SE.sb se_int) (SE.sb se_int)))) sc.nd)
  (ss_cons (ss_for [some 0, some 0, some 0, some 0, some 1, none, none, none] PySem.PassesOwn.never rfl (si_seq (SB.se (sb_var 2 rfl))) rfl (sg_name 7 sc.nd)
  (SSs.sub (Γ' := [some 0, some 0, some 0, some 0, some 1, none, none, none]) (ss_cons (ss_append 4 (n := 0) rfl (se_mod (sb_var 3 rfl) (sb_var 7 rfl)) (by decide) (pv 4) rfl app_pe)
  (ss_one (ss_set 3 (se_div (sb_var 3 rfl) (sb_var 7 rfl)) sc.nd))) rfl))
  (ss_one (ss_ret (se_mv 4 rfl) (by decide)))))
  (SSs.sub (Γ' := [some 0, some 0, some 0, some 0, some 1, none, none, none]) ss_nil rfl))
  (ss_cons (ss_set 5 (se_mod (SE.sb (se_add (SE.sb (se_add (sb_var 3 rfl) (SE.sb se_int))) (SE.sb (se_mul (SE.sb se_int) (sb_var 1 rfl))))) (SE.sb se_int)) sc.nd)
  (ss_cons (ss_for [some 0, some 0, some 0, some 0, some 1, some 0, none, none] PySem.PassesOwn.never rfl (si_range1 rfl T.z_range (SE.sb (se_len rfl T.z_len (sb_var 2 rfl)))) rfl (sg_name 6 sc.nd)
  (SSs.sub (Γ' := [some 0, some 0, some 0, some 0, some 1, some 0, none, none]) (ss_cons (ss_set 5 (se_mod (SE.sb (se_add (SE.sb (se_add (SE.sb (se_mul (sb_var 5 rfl) (SE.sb se_int))) (SE.sb se_int))) (sb_var 6 rfl))) (SE.sb se_int)) sc.nd)
  (ss_cons (ss_set 5 (se_mod (SE.sb (se_add (SE.sb (se_mul (sb_var 5 rfl) (SE.sb se_int))) (SE.sb se_int))) (SE.sb se_int)) sc.nd)
  (ss_one (ss_append 4 (n := 0) rfl (se_mod (SE.sb (se_div (sb_var 5 rfl) (SE.sb se_int))) (SE.sb (se_ixA (sb_var 2 rfl) (sb_var 6 rfl)))) (by decide) (pv 4) rfl app_pe)))) rfl))
  (ss_one (ss_ret (se_mv 4 rfl) (by decide)))))))))
def B_Cursor_take [PC_Cursor] : SF :=
  (sSeq (sStay (sSet 1 (eMeth PC_Cursor.C "word_here" (flatF F_Cursor_word_here) (eV 0) aN)))
  (sSeq (sAugF 0 PC_Cursor.C "taken" 1)
  (sRetJ 0 (eV 1))))
def F_Cursor_take [PC_Cursor] : List D → Option D := runS 0 0 2 B_Cursor_take
theorem sc_Cursor_take : FnScope ["self", "word"] ["self"] (defScope ((inClass (topS 15) 5))) := ⟨rfl, rfl, rfl, by decide +kernel, rfl, by decide +kernel, by decide +kernel⟩
theorem ok_Cursor_take [PC_Cursor] (T : Txt w K mg) : FnOk P w K mg base CX0 2 T.a_Cursor_take T.d_Cursor_take ["self"] (PureS K 1 0 0 F_Cursor_take) := by
  have sc := sc_Cursor_take
  exact fn_pureS (W := []) (Γ' := [some 1]) T.F_Cursor_take sc_Cursor_take rfl rfl rfl fun cdv A outer s H E hr =>
    (sj_cons (sj_of (ss_set 1 (se_mthL0 (ok_Cursor_word_here T) (hr.mono (by decide)) T.rc_Cursor T.me_Cursor_word_here T.b_Cursor_word_here (sb_var 0 rfl)) sc.nd))
  (sj_cons (sj_augF T.rc_Cursor T.n_Cursor_taken (pv 0))
  (sj_one (sj_ret (SB.se (sb_var 1 rfl)) rfl (by decide)))))
def B_Cursor_take_if [PC_Cursor] : SF :=
  (sSeq (sIf (tV (e2 pNe (eMeth PC_Cursor.C "word_here" (flatF F_Cursor_word_here) (eV 0) aN) (eV 1))) (sRetJ 0 (eC (.bool false)))
  sSkip)
  (sSeq (sAugF 0 PC_Cursor.C "taken" 1)
  (sRetJ 0 (eC (.bool true)))))
def F_Cursor_take_if [PC_Cursor] : List D → Option D := runS 0 1 2 B_Cursor_take_if
theorem sc_Cursor_take_if : FnScope ["self", "word"] ["self", "word"] (defScope ((inClass (topS 15) 6))) := ⟨rfl, rfl, rfl, by decide +kernel, rfl, by decide +kernel, by decide +kernel⟩
theorem ok_Cursor_take_if [PC_Cursor] (T : Txt w K mg) : FnOk P w K mg base CX0 2 T.a_Cursor_take_if T.d_Cursor_take_if ["self", "word"] (PureS K 1 1 0 F_Cursor_take_if) := by
  have sc := sc_Cursor_take_if
  exact fn_pureS (W := []) (Γ' := [some 1]) T.F_Cursor_take_if sc_Cursor_take_if rfl rfl rfl fun cdv A outer s H E hr =>
    (sj_cons (sj_if (st_ne (hu64 hr) (SE.sb (se_mthL0 (ok_Cursor_word_here T) (hr.mono (by decide)) T.rc_Cursor T.me_Cursor_word_here T.b_Cursor_word_here (sb_var 0 rfl))) (sb_var 1 rfl)) (sj_one (sj_ret se_bl rfl (by decide)))
  (SSJ.sub (Γ' := [some 1, some 0]) sj_nil rfl))
  (sj_cons (sj_augF T.rc_Cursor T.n_Cursor_taken (pv 0))
  (sj_one (sj_ret se_bl rfl (by decide)))))
def B_Cursor_name_is_here [PC_Cursor] : SF :=
  (sRet (eAnd (e2 pEq (eMeth PC_Cursor.C "kind_here" (flatF F_Cursor_kind_here) (eV 0) aN) (eC (.str (Str.ofString "word")))) (eInG true k_RESERVED (eMeth PC_Cursor.C "word_here" (flatF F_Cursor_word_here) (eV 0) aN))))
def F_Cursor_name_is_here [PC_Cursor] : List D → Option D := runF 0 1 1 B_Cursor_name_is_here
theorem sc_Cursor_name_is_here : FnScope ["self"] ["self"] (defScope ((inClass (topS 15) 8))) := ⟨rfl, rfl, rfl, by decide +kernel, rfl, by decide +kernel, by decide +kernel⟩
theorem ok_Cursor_name_is_here [PC_Cursor] (T : Txt w K mg) : FnOk P w K mg base CX0 2 T.a_Cursor_name_is_here T.d_Cursor_name_is_here ["self"] (Pure K 1 0 F_Cursor_name_is_here) := by
  have sc := sc_Cursor_name_is_here
  exact fn_pure (Γ' := []) T.F_Cursor_name_is_here sc_Cursor_name_is_here rfl fun cdv A outer s H E hr =>
    (ss_one (ss_ret (se_and (se_eq (hu64 hr) (SE.sb (se_mthL0 (ok_Cursor_kind_here T) (hr.mono (by decide)) T.rc_Cursor T.me_Cursor_kind_here T.b_Cursor_kind_here (sb_var 0 rfl))) (SE.sb se_str)) (se_one (se_notInG T.g_RESERVED rfl (SE.sb (se_mthL0 (ok_Cursor_word_here T) (hr.mono (by decide)) T.rc_Cursor T.me_Cursor_word_here T.b_Cursor_word_here (sb_var 0 rfl)))))) (by decide)))
def L__law_row_1 : SF :=
  (sSeq (sSet 6 (eL F__law_draw (aC (eV 0) (aC (e2 pAdd (eC (.int 1)) (eV 5)) (aC (eLst (aC (eC (.int 12)) (aC (eC (.int 9)) (aC (eC (.int 9)) (aC (eC (.int 9)) (aC (eC (.int 6)) aN)))))) aN)))))
  (sSeq (sIf (tV (e2 pGt (eV 5) (eC (.int 0)))) (sIf (tV (e2 pLt (e2 pIx (eV 6) (eC (.int 0))) (eC (.int 5)))) (sSeq (sApp 2 (e2 pIx (eLst (aC (eC (.str (Str.ofString "or"))) (aC (eC (.str (Str.ofString "and"))) (aC (eC (.str (Str.ofString "since"))) (aC (eC (.str (Str.ofString "implies"))) (aC (eC (.str (Str.ofString "and"))) aN)))))) (e2 pIx (eV 6) (eC (.int 0)))))
  (sSeq (sSet 3 (eC (.bool false)))
  (sSet 4 (eC (.bool true)))))
  (sIf (tAndF (tV (e2 pLt (e2 pIx (eV 6) (eC (.int 0))) (eC (.int 7)))) (tNotF (tT (eV 3)))) (sSeq (sApp 2 (e2 pIx (eLst (aC (eC (.str (Str.ofString "<"))) (aC (eC (.str (Str.ofString "<="))) (aC (eC (.str (Str.ofString "="))) (aC (eC (.str (Str.ofString "!="))) (aC (eC (.str (Str.ofString ">="))) (aC (eC (.str (Str.ofString ">"))) aN))))))) (e2 pIx (eV 6) (eC (.int 4)))))
  (sSet 3 (eC (.bool true))))
  (sApp 2 (e2 pIx (eC (.str (Str.ofString "+-*"))) (e2 pMod (e2 pIx (eV 6) (eC (.int 0))) (eC (.int 3)))))))
  sSkip)
  (sSeq (sIf (tAndF (tT (eV 4)) (tV (e2 pLt (e2 pIx (eV 6) (eC (.int 1))) (eC (.int 3))))) (sApp 2 (e2 pIx (eLst (aC (eC (.str (Str.ofString "not"))) (aC (eC (.str (Str.ofString "before"))) (aC (eC (.str (Str.ofString "once"))) aN)))) (e2 pIx (eV 6) (eC (.int 1)))))
  sSkip)
  (sSeq (sSet 4 (eC (.bool false)))
  (sSeq (sIf (tV (e2 pEq (e2 pIx (eV 6) (eC (.int 2))) (eC (.int 1)))) (sApp 2 (eC (.str (Str.ofString "neg"))))
  sSkip)
  (sApp 2 (e2 pIx (eLst (aC (eC (.str (Str.ofString "x"))) (aC (eC (.str (Str.ofString "y"))) (aC (eC (.str (Str.ofString "3"))) (aC (eC (.str (Str.ofString "z"))) (aC (eC (.str (Str.ofString "0"))) (aC (eC (.str (Str.ofString "w"))) (aC (eC (.str (Str.ofString "12"))) (aC (eC (.str (Str.ofString "v"))) (aC (eC (.str (Str.ofString "u"))) aN)))))))))) (e2 pIx (eV 6) (eC (.int 3))))))))))
def B__law_row : SF :=
  (sSeq (sSet 1 (eL F__law_draw (aC (eV 0) (aC (eC (.int 0)) (aC (eLst (aC (eC (.int 6)) (aC (eC (.int 5)) aN))) aN)))))
  (sSeq (sSet 2 (eLst aN))
  (sSeq (sSet 3 (eC (.bool false)))
  (sSeq (sSet 4 (eC (.bool true)))
  (sSeq (sForE (aRng1 (aC (e2 pAdd (eC (.int 2)) (e2 pIx (eV 1) (eC (.int 0)))) aN)) (gN 5) L__law_row_1)
  (sRet (eV 2)))))))
def F__law_row : List D → Option D := runF 1 1 7 B__law_row
theorem sc__law_row : FnScope ["script", "head", "words", "compared", "logical", "k", "digits"] ["script"] (defScope (topS 46)) := ⟨rfl, rfl, rfl, by decide +kernel, rfl, by decide +kernel, by decide +kernel⟩
theorem ok__law_row [PC_Cursor] (T : Txt w K mg) : FnOk P w K mg base CX0 3 T.a__law_row T.d__law_row ["script"] (Pure K 1 1 F__law_row) := by
  have sc := sc__law_row
  exact fn_pure (Γ' := []) T.F__law_row sc__law_row rfl fun cdv A outer s H E hr =>
    (ss_cons (ss_set 1 (se_call (ok__law_draw T) (hr.mono (by decide)) rfl T.m__law_draw T.F__law_draw.kp T.b__law_draw (sa_cons (SE.sb (SB.se (sb_var 0 rfl))) (sa_cons (SE.sb se_int) (sa_cons (SE.sb (SE.sub (m := 0) (se_lst (sa_cons (SE.sb se_int) (sa_cons (SE.sb se_int) sa_nil))) (leC_refl _) (Nat.zero_le _))) sa_nil)))) sc.nd)
  (ss_cons (ss_set 2 (se_lst sa_nil) sc.nd)
  (ss_cons (ss_set 3 se_bl sc.nd)
  (ss_cons (ss_set 4 se_bl sc.nd)
  (ss_cons (ss_for [some 0, some 1, some 1, some 0, some 0, none, none] PySem.PassesOwn.never rfl (si_range1 rfl T.z_range (SE.sb (se_add (SE.sb se_int) (SE.sb (se_ixA (sb_var 1 rfl) (SE.sb se_int)))))) rfl (sg_name 5 sc.nd)
  (SSs.sub (Γ' := [some 0, some 1, some 1, some 0, some 0, none, none]) (ss_cons (ss_set 6 (se_call (ok__law_draw T) (hr.mono (by decide)) rfl T.m__law_draw T.F__law_draw.kp T.b__law_draw (sa_cons (SE.sb (SB.se (sb_var 0 rfl))) (sa_cons (SE.sb (se_add (SE.sb se_int) (sb_var 5 rfl))) (sa_cons (SE.sb (SE.sub (m := 0) (se_lst (sa_cons (SE.sb se_int) (sa_cons (SE.sb se_int) (sa_cons (SE.sb se_int) (sa_cons (SE.sb se_int) (sa_cons (SE.sb se_int) sa_nil)))))) (leC_refl _) (Nat.zero_le _))) sa_nil)))) sc.nd)
  (ss_cons (ss_if (st_gt (sb_var 5 rfl) (SE.sb se_int)) (SSs.sub (Γ' := [some 0, some 1, some 1, some 0, some 0, some 0, some 1]) (ss_one (ss_if (st_lt (SE.sb (se_ixA (sb_var 6 rfl) (SE.sb se_int))) (SE.sb se_int)) (SSs.sub (Γ' := [some 0, some 1, some 1, some 0, some 0, some 0, some 1]) (ss_cons (ss_append 2 (n := 0) rfl (se_ixA (SE.sb (se_lst (sa_cons (SE.sb se_str) (sa_cons (SE.sb se_str) (sa_cons (SE.sb se_str) (sa_cons (SE.sb se_str) (sa_cons (SE.sb se_str) sa_nil))))))) (SE.sb (se_ixA (sb_var 6 rfl) (SE.sb se_int)))) (by decide) (pv 2) rfl app_pe)
  (ss_cons (ss_set 3 se_bl sc.nd)
  (ss_one (ss_set 4 se_bl sc.nd)))) rfl)
  (SSs.sub (Γ' := [some 0, some 1, some 1, some 0, some 0, some 0, some 1]) (ss_one (ss_if (STw.ts (sw_and (st_lt (SE.sb (se_ixA (sb_var 6 rfl) (SE.sb se_int))) (SE.sb se_int)) (sw_and1 (st_not (st_truth (sb_var 3 rfl)))))) (SSs.sub (Γ' := [some 0, some 1, some 1, some 0, some 0, some 0, some 1]) (ss_cons (ss_append 2 (n := 0) rfl (se_ixA (SE.sb (se_lst (sa_cons (SE.sb se_str) (sa_cons (SE.sb se_str) (sa_cons (SE.sb se_str) (sa_cons (SE.sb se_str) (sa_cons (SE.sb se_str) (sa_cons (SE.sb se_str) sa_nil)))))))) (SE.sb (se_ixA (sb_var 6 rfl) (SE.sb se_int)))) (by decide) (pv 2) rfl app_pe)
  (ss_one (ss_set 3 se_bl sc.nd))) rfl)
  (SSs.sub (Γ' := [some 0, some 1, some 1, some 0, some 0, some 0, some 1]) (ss_one (ss_append 2 (n := 0) rfl (se_ixA (SE.sb se_str) (SE.sb (se_mod (SE.sb (se_ixA (sb_var 6 rfl) (SE.sb se_int))) (SE.sb se_int)))) (by decide) (pv 2) rfl app_pe)) rfl))) rfl))) rfl)
  (SSs.sub (Γ' := [some 0, some 1, some 1, some 0, some 0, some 0, some 1]) ss_nil rfl))
  (ss_cons (ss_if (STw.ts (sw_and (st_truth (sb_var 4 rfl)) (sw_and1 (st_lt (SE.sb (se_ixA (sb_var 6 rfl) (SE.sb se_int))) (SE.sb se_int))))) (SSs.sub (Γ' := [some 0, some 1, some 1, some 0, some 0, some 0, some 1]) (ss_one (ss_append 2 (n := 0) rfl (se_ixA (SE.sb (se_lst (sa_cons (SE.sb se_str) (sa_cons (SE.sb se_str) (sa_cons (SE.sb se_str) sa_nil))))) (SE.sb (se_ixA (sb_var 6 rfl) (SE.sb se_int)))) (by decide) (pv 2) rfl app_pe)) rfl)
  (SSs.sub (Γ' := [some 0, some 1, some 1, some 0, some 0, some 0, some 1]) ss_nil rfl))
  (ss_cons (ss_set 4 se_bl sc.nd)
  (ss_cons (ss_if (st_eq (hu64 hr) (SE.sb (se_ixA (sb_var 6 rfl) (SE.sb se_int))) (SE.sb se_int)) (SSs.sub (Γ' := [some 0, some 1, some 1, some 0, some 0, some 0, some 1]) (ss_one (ss_append 2 (n := 0) rfl se_str (by decide) (pv 2) rfl app_pe)) rfl)
  (SSs.sub (Γ' := [some 0, some 1, some 1, some 0, some 0, some 0, some 1]) ss_nil rfl))
  (ss_one (ss_append 2 (n := 0) rfl (se_ixA (SE.sb (se_lst (sa_cons (SE.sb se_str) (sa_cons (SE.sb se_str) (sa_cons (SE.sb se_str) (sa_cons (SE.sb se_str) (sa_cons (SE.sb se_str) (sa_cons (SE.sb se_str) (sa_cons (SE.sb se_str) (sa_cons (SE.sb se_str) (sa_cons (SE.sb se_str) sa_nil))))))))))) (SE.sb (se_ixA (sb_var 6 rfl) (SE.sb se_int)))) (by decide) (pv 2) rfl app_pe))))))) rfl))
  (ss_one (ss_ret (se_mv 2 rfl) (by decide))))))))
def B_Cursor_take_only [PC_Cursor] : SF :=
  (sIfM (tNotM (tM 0 (eMS 0 PC_Cursor.C "take_if" F_Cursor_take_if (aC (eV 1) aN)))) sNever
  sSkip)
def F_Cursor_take_only [PC_Cursor] : List D → Option D := runS 0 1 2 B_Cursor_take_only
theorem sc_Cursor_take_only : FnScope ["self", "word"] ["self", "word"] (defScope ((inClass (topS 15) 7))) := ⟨rfl, rfl, rfl, by decide +kernel, rfl, by decide +kernel, by decide +kernel⟩
theorem ok_Cursor_take_only [PC_Cursor] (T : Txt w K mg) : FnOk P w K mg base CX0 3 T.a_Cursor_take_only T.d_Cursor_take_only ["self", "word"] (PureS K 1 1 0 F_Cursor_take_only) := by
  have sc := sc_Cursor_take_only
  exact fn_pureS (W := []) (Γ' := [some 1, some 0]) T.F_Cursor_take_only sc_Cursor_take_only rfl rfl rfl fun cdv A outer s H E hr =>
    (sj_one (sj_ifM (stm_not (stm_of (sem_meth 0 (ok_Cursor_take_if T) (hr.mono (by decide)) T.rc_Cursor T.me_Cursor_take_if T.b_Cursor_take_if (sa_cons (SE.sb (SB.se (sb_var 1 rfl))) sa_nil)))) (sj_one sj_never)
  (SSJ.sub (Γ' := [some 1, some 0]) sj_nil rfl)))
def B_Cursor_take_name [PC_Cursor] : SF :=
  (sSeq (sIf (tNotF (tT (eMeth PC_Cursor.C "name_is_here" (flatF F_Cursor_name_is_here) (eV 0) aN))) sNever
  sSkip)
  (sRet (eMS 0 PC_Cursor.C "take" F_Cursor_take aN)))
def F_Cursor_take_name [PC_Cursor] : List D → Option D := runS 0 0 1 B_Cursor_take_name
theorem sc_Cursor_take_name : FnScope ["self"] ["self"] (defScope ((inClass (topS 15) 9))) := ⟨rfl, rfl, rfl, by decide +kernel, rfl, by decide +kernel, by decide +kernel⟩
theorem ok_Cursor_take_name [PC_Cursor] (T : Txt w K mg) : FnOk P w K mg base CX0 3 T.a_Cursor_take_name T.d_Cursor_take_name ["self"] (PureS K 1 0 0 F_Cursor_take_name) := by
  have sc := sc_Cursor_take_name
  exact fn_pureS (W := []) (Γ' := [some 1]) T.F_Cursor_take_name sc_Cursor_take_name rfl rfl rfl fun cdv A outer s H E hr =>
    (sj_cons (sj_if (st_not (st_truth (SE.sb (se_mthL0 (ok_Cursor_name_is_here T) (hr.mono (by decide)) T.rc_Cursor T.me_Cursor_name_is_here T.b_Cursor_name_is_here (sb_var 0 rfl))))) (sj_one sj_never)
  (SSJ.sub (Γ' := [some 1]) sj_nil rfl))
  (sj_one (sj_retM (sem_meth0 0 (ok_Cursor_take T) (hr.mono (by decide)) T.rc_Cursor T.me_Cursor_take T.b_Cursor_take))))
def B_Cursor_take_number [PC_Cursor] : SF :=
  (sSeq (sIf (tV (e2 pNe (eMeth PC_Cursor.C "kind_here" (flatF F_Cursor_kind_here) (eV 0) aN) (eC (.str (Str.ofString "number"))))) sNever
  sSkip)
  (sRet (eIntM (eMS 0 PC_Cursor.C "take" F_Cursor_take aN))))
def F_Cursor_take_number [PC_Cursor] : List D → Option D := runS 0 0 1 B_Cursor_take_number
theorem sc_Cursor_take_number : FnScope ["self"] ["self"] (defScope ((inClass (topS 15) 10))) := ⟨rfl, rfl, rfl, by decide +kernel, rfl, by decide +kernel, by decide +kernel⟩
theorem ok_Cursor_take_number [PC_Cursor] (T : Txt w K mg) : FnOk P w K mg base CX0 3 T.a_Cursor_take_number T.d_Cursor_take_number ["self"] (PureS K 1 0 0 F_Cursor_take_number) := by
  have sc := sc_Cursor_take_number
  exact fn_pureS (W := []) (Γ' := [some 1]) T.F_Cursor_take_number sc_Cursor_take_number rfl rfl rfl fun cdv A outer s H E hr =>
    (sj_cons (sj_if (st_ne (hu64 hr) (SE.sb (se_mthL0 (ok_Cursor_kind_here T) (hr.mono (by decide)) T.rc_Cursor T.me_Cursor_kind_here T.b_Cursor_kind_here (sb_var 0 rfl))) (SE.sb se_str)) (sj_one sj_never)
  (SSJ.sub (Γ' := [some 1]) sj_nil rfl))
  (sj_one (sj_retM (sem_intT rfl T.z_int (sem_meth0 0 (ok_Cursor_take T) (hr.mono (by decide)) T.rc_Cursor T.me_Cursor_take T.b_Cursor_take)))))
def L_words_of_1 : SF :=
  (sSeq (sAsg (gTpl (gMore (gN 6) (gMore (gN 7) gEmp)) 2) (eL F_find_piece (aC (eV 0) (aC (eV 2) aN))))
  (sSeq (sIf (tOrF (tV (e2 pEq (eV 6) (eC (.str (Str.ofString "unknown"))))) (tV (e2 pGt (eV 7) (eGetG k_LONGEST (eV 6) (eV 7))))) (fun _ => none)
  sSkip)
  (sSeq (sSet 5 (eSl pSlS (eV 0) (oS (eV 2)) (oS (e2 pAdd (eV 2) (eV 7)))))
  (sSeq (sIf (tV (e2 pNe (eV 6) (eC (.str (Str.ofString "blank"))))) (sApp 1 (eTup (aC (eV 6) (aC (eV 5) (aC (eV 3) (aC (eV 4) aN))))))
  sSkip)
  (sSeq (sSet 2 (e2 (iOp0 fun a b => .int (a + b)) (eV 2) (eV 7)))
  (sSeq (sSet 4 (e2 (iOp0 fun a b => .int (a + b)) (eV 4) (eV 7)))
  (sIf (tV (e2 pEq (eV 5) (eC (.str (Str.ofString "\n"))))) (sSeq (sSet 3 (e2 (iOp0 fun a b => .int (a + b)) (eV 3) (eC (.int 1))))
  (sSet 4 (eC (.int 1))))
  sSkip)))))))
def B_words_of : SF :=
  (sSeq (sSet 1 (eLst aN))
  (sSeq (sAsg (gTpl (gMore (gN 2) (gMore (gN 3) (gMore (gN 4) gEmp))) 3) (eTup (aC (eC (.int 0)) (aC (eC (.int 1)) (aC (eC (.int 1)) aN)))))
  (sSeq (sWhile (tV (e2 pLt (eV 2) (eL lenD (aC (eV 0) aN)))) L_words_of_1)
  (sSeq (sApp 1 (eTup (aC (eC (.str (Str.ofString "end"))) (aC (eC (.str (Str.ofString ""))) (aC (eV 3) (aC (eV 4) aN))))))
  (sRet (eV 1))))))
def F_words_of : List D → Option D := runF 1 1 8 B_words_of
theorem sc_words_of : FnScope ["text", "words", "place", "line", "column", "piece", "kind", "size"] ["text"] (defScope (topS 10)) := ⟨rfl, rfl, rfl, by decide +kernel, rfl, by decide +kernel, by decide +kernel⟩
theorem ok_words_of [PC_Cursor] (T : Txt w K mg) : FnOk P w K mg base CX0 4 T.a_words_of T.d_words_of ["text"] (Pure K 1 1 F_words_of) := by
  have sc := sc_words_of
  exact fn_pure (Γ' := []) T.F_words_of sc_words_of rfl fun cdv A outer s H E hr =>
    (ss_cons (ss_set 1 (se_lst sa_nil) sc.nd)
  (ss_cons (ss_asg (se_tup (sa_cons (SE.sb se_int) (sa_cons (SE.sb se_int) (sa_cons (SE.sb se_int) sa_nil)))) (sg_tup rfl (sgs_cons (sg_name 2 sc.nd) (sgs_cons (sg_name 3 sc.nd) (sgs_cons (sg_name 4 sc.nd) sgs_nil)))))
  (ss_cons (ss_while (Γ' := [some 0, some 1, some 0, some 0, some 0, none, none, none]) [some 0, some 1, some 0, some 0, some 0, none, none, none] PySem.PassesOwn.never rfl (st_lt (sb_var 2 rfl) (SE.sb (se_len rfl T.z_len (sb_var 0 rfl))))
  (SSs.sub (Γ' := [some 0, some 1, some 0, some 0, some 0, none, none, none]) (ss_cons (ss_asg (SE.sub (m := 0) (se_call (ok_find_piece T) (hr.mono (by decide)) rfl T.m_find_piece T.F_find_piece.kp T.b_find_piece (sa_cons (SE.sb (SB.se (sb_var 0 rfl))) (sa_cons (SE.sb (SB.se (sb_var 2 rfl))) sa_nil))) (leC_refl _) (Nat.zero_le _)) (sg_tup rfl (sgs_cons (sg_name 6 sc.nd) (sgs_cons (sg_name 7 sc.nd) sgs_nil))))
  (ss_cons (ss_if (STw.ts (sw_or (st_eq (hu64 hr) (sb_var 6 rfl) (SE.sb se_str)) (sw_or1 (st_gt (sb_var 7 rfl) (SE.sb (se_getG T.g_LONGEST rfl (sb_var 6 rfl) (SB.se (sb_var 7 rfl)))))))) (ss_one ss_never)
  (SSs.sub (Γ' := [some 0, some 1, some 0, some 0, some 0, none, some 0, some 0]) ss_nil rfl))
  (ss_cons (ss_set 5 (se_slS (sb_var 0 rfl) (so_some (sb_var 2 rfl)) (so_some (SE.sb (se_add (sb_var 2 rfl) (sb_var 7 rfl))))) sc.nd)
  (ss_cons (ss_if (st_ne (hu64 hr) (sb_var 6 rfl) (SE.sb se_str)) (SSs.sub (Γ' := [some 0, some 1, some 0, some 0, some 0, some 0, some 0, some 0]) (ss_one (ss_append 1 (n := 0) rfl (se_tup (sa_cons (SE.sb (SB.se (sb_var 6 rfl))) (sa_cons (SE.sb (SB.se (sb_var 5 rfl))) (sa_cons (SE.sb (SB.se (sb_var 3 rfl))) (sa_cons (SE.sb (SB.se (sb_var 4 rfl))) sa_nil))))) (by decide) (pv 1) rfl app_pe)) rfl)
  (SSs.sub (Γ' := [some 0, some 1, some 0, some 0, some 0, some 0, some 0, some 0]) ss_nil rfl))
  (ss_cons (ss_aug ip_add sc.nd rfl (SB.se (sb_var 7 rfl)))
  (ss_cons (ss_aug ip_add sc.nd rfl (SB.se (sb_var 7 rfl)))
  (ss_one (ss_if (st_eq (hu64 hr) (sb_var 5 rfl) (SE.sb se_str)) (SSs.sub (Γ' := [some 0, some 1, some 0, some 0, some 0, some 0, some 0, some 0]) (ss_cons (ss_aug ip_add sc.nd rfl se_int)
  (ss_one (ss_set 4 se_int sc.nd))) rfl)
  (SSs.sub (Γ' := [some 0, some 1, some 0, some 0, some 0, some 0, some 0, some 0]) ss_nil rfl))))))))) rfl) rfl)
  (ss_cons (ss_append 1 (n := 0) rfl (se_tup (sa_cons (SE.sb se_str) (sa_cons (SE.sb se_str) (sa_cons (SE.sb (SB.se (sb_var 3 rfl))) (sa_cons (SE.sb (SB.se (sb_var 4 rfl))) sa_nil))))) (by decide) (pv 1) rfl app_pe)
  (ss_one (ss_ret (se_mv 1 rfl) (by decide)))))))
def B_take_limit [PC_Cursor] : SF :=
  (sSeq (sIfM (tNotM (tM 0 (eMS 0 PC_Cursor.C "take_if" F_Cursor_take_if (aC (eC (.str (Str.ofString "["))) aN)))) (sRetJ 0 (eC .none))
  sSkip)
  (sSeq (sSetM 0 1 (eMS 0 PC_Cursor.C "take_number" F_Cursor_take_number aN))
  (sSeq (sExprM 0 (eMS 0 PC_Cursor.C "take_only" F_Cursor_take_only (aC (eC (.str (Str.ofString "]"))) aN)))
  (sRetJ 0 (eV 1)))))
def F_take_limit [PC_Cursor] : List D → Option D := runS 0 0 2 B_take_limit
theorem sc_take_limit : FnScope ["cursor", "limit"] ["cursor"] (defScope (topS 32)) := ⟨rfl, rfl, rfl, by decide +kernel, rfl, by decide +kernel, by decide +kernel⟩
theorem ok_take_limit [PC_Cursor] (T : Txt w K mg) : FnOk P w K mg base CX0 4 T.a_take_limit T.d_take_limit ["cursor"] (PureS K 1 0 0 F_take_limit) := by
  have sc := sc_take_limit
  exact fn_pureS (W := []) (Γ' := [some 1]) T.F_take_limit sc_take_limit rfl rfl rfl fun cdv A outer s H E hr =>
    (sj_cons (sj_ifM (stm_not (stm_of (sem_meth 0 (ok_Cursor_take_if T) (hr.mono (by decide)) T.rc_Cursor T.me_Cursor_take_if T.b_Cursor_take_if (sa_cons (SE.sb se_str) sa_nil)))) (sj_one (sj_ret se_non rfl (by decide)))
  (SSJ.sub (Γ' := [some 1, none]) sj_nil rfl))
  (sj_cons (sj_setM 1 (sem_meth0 0 (ok_Cursor_take_number T) (hr.mono (by decide)) T.rc_Cursor T.me_Cursor_take_number T.b_Cursor_take_number) sc.nd)
  (sj_cons (sj_exprM (sem_meth 0 (ok_Cursor_take_only T) (hr.mono (by decide)) T.rc_Cursor T.me_Cursor_take_only T.b_Cursor_take_only (sa_cons (SE.sb se_str) sa_nil)))
  (sj_one (sj_ret (SB.se (sb_var 1 rfl)) rfl (by decide))))))
def B_take_leaf [PC_Cursor] : SF :=
  (sSeq (sIf (tV (e2 pEq (eMeth PC_Cursor.C "kind_here" (flatF F_Cursor_kind_here) (eV 0) aN) (eC (.str (Str.ofString "number"))))) (sRet (eTupM (aConsM (eC (.str (Str.ofString "number"))) (aHereM 0 (eMS 0 PC_Cursor.C "take_number" F_Cursor_take_number aN) aN))))
  sSkip)
  (sSeq (sIf (tV (e2 pIn (eMeth PC_Cursor.C "word_here" (flatF F_Cursor_word_here) (eV 0) aN) (eTup (aC (eC (.str (Str.ofString "true"))) (aC (eC (.str (Str.ofString "false"))) aN))))) (sRet (eTupM (aHereM 0 (eMS 0 PC_Cursor.C "take" F_Cursor_take aN) aN)))
  sSkip)
  (sSeq (sIf (tNotF (tT (eMeth PC_Cursor.C "name_is_here" (flatF F_Cursor_name_is_here) (eV 0) aN))) sNever
  sSkip)
  (sSeq (sSetM 0 1 (eMS 0 PC_Cursor.C "take_name" F_Cursor_take_name aN))
  (sSeq (sIfM (tM 0 (eMS 0 PC_Cursor.C "take_if" F_Cursor_take_if (aC (eC (.str (Str.ofString "."))) aN))) (sRet (eTupM (aConsM (eC (.str (Str.ofString "dotted"))) (aConsM (eV 1) (aHereM 0 (eMS 0 PC_Cursor.C "take_name" F_Cursor_take_name aN) aN)))))
  sSkip)
  (sRetJ 0 (eTup (aC (eC (.str (Str.ofString "name"))) (aC (eV 1) aN)))))))))
def F_take_leaf [PC_Cursor] : List D → Option D := runS 0 0 2 B_take_leaf
theorem sc_take_leaf : FnScope ["cursor", "name"] ["cursor"] (defScope (topS 39)) := ⟨rfl, rfl, rfl, by decide +kernel, rfl, by decide +kernel, by decide +kernel⟩
theorem ok_take_leaf [PC_Cursor] (T : Txt w K mg) : FnOk P w K mg base CX0 4 T.a_take_leaf T.d_take_leaf ["cursor"] (PureS K 1 0 0 F_take_leaf) := by
  have sc := sc_take_leaf
  exact fn_pureS (W := []) (Γ' := [some 1]) T.F_take_leaf sc_take_leaf rfl rfl rfl fun cdv A outer s H E hr =>
    (sj_cons (sj_if (st_eq (hu64 hr) (SE.sb (se_mthL0 (ok_Cursor_kind_here T) (hr.mono (by decide)) T.rc_Cursor T.me_Cursor_kind_here T.b_Cursor_kind_here (sb_var 0 rfl))) (SE.sb se_str)) (sj_one (sj_retM (sem_tup (sam_cons (SE.sb se_str) (sam_here (sem_meth0 0 (ok_Cursor_take_number T) (hr.mono (by decide)) T.rc_Cursor T.me_Cursor_take_number T.b_Cursor_take_number) sa_nil)))))
  (SSJ.sub (Γ' := [some 1, none]) sj_nil rfl))
  (sj_cons (sj_if (st_in (hu65 hr) (SE.sb (se_mthL0 (ok_Cursor_word_here T) (hr.mono (by decide)) T.rc_Cursor T.me_Cursor_word_here T.b_Cursor_word_here (sb_var 0 rfl))) (SE.sb (se_tup (sa_cons (SE.sb se_str) (sa_cons (SE.sb se_str) sa_nil))))) (sj_one (sj_retM (sem_tup (sam_here (sem_meth0 0 (ok_Cursor_take T) (hr.mono (by decide)) T.rc_Cursor T.me_Cursor_take T.b_Cursor_take) sa_nil))))
  (SSJ.sub (Γ' := [some 1, none]) sj_nil rfl))
  (sj_cons (sj_if (st_not (st_truth (SE.sb (se_mthL0 (ok_Cursor_name_is_here T) (hr.mono (by decide)) T.rc_Cursor T.me_Cursor_name_is_here T.b_Cursor_name_is_here (sb_var 0 rfl))))) (sj_one sj_never)
  (SSJ.sub (Γ' := [some 1, none]) sj_nil rfl))
  (sj_cons (sj_setM 1 (sem_meth0 0 (ok_Cursor_take_name T) (hr.mono (by decide)) T.rc_Cursor T.me_Cursor_take_name T.b_Cursor_take_name) sc.nd)
  (sj_cons (sj_ifM (stm_of (sem_meth 0 (ok_Cursor_take_if T) (hr.mono (by decide)) T.rc_Cursor T.me_Cursor_take_if T.b_Cursor_take_if (sa_cons (SE.sb se_str) sa_nil))) (sj_one (sj_retM (sem_tup (sam_cons (SE.sb se_str) (sam_cons (SE.sb (SB.se (sb_var 1 rfl))) (sam_here (sem_meth0 0 (ok_Cursor_take_name T) (hr.mono (by decide)) T.rc_Cursor T.me_Cursor_take_name T.b_Cursor_take_name) sa_nil))))))
  (SSJ.sub (Γ' := [some 1, some 0]) sj_nil rfl))
  (sj_one (sj_ret (se_tup (sa_cons (SE.sb se_str) (sa_cons (SE.sb (SB.se (sb_var 1 rfl))) sa_nil))) rfl (by decide))))))))
def B_Cursor___init__ [PC_Cursor] : SF :=
  (sSeq (sFldI PC_Cursor.C "words" (eL F_words_of (aC (eV 1) aN)))
  (sSeq (sFldI PC_Cursor.C "taken" (eC (.int 0)))
  sSkip))
def F_Cursor___init__ [PC_Cursor] : List D → Option D := runI PC_Cursor.C 1 2 B_Cursor___init__
theorem sc_Cursor___init__ : FnScope ["self", "text"] ["self", "text"] (defScope ((inClass (topS 15) 0))) := ⟨rfl, rfl, rfl, by decide +kernel, rfl, by decide +kernel, by decide +kernel⟩
theorem ok_Cursor___init__ [PC_Cursor] (T : Txt w K mg) : FnOk P w K mg base CX0 5 T.a_Cursor___init__ T.d_Cursor___init__ ["self", "text"] (spI K PC_Cursor.C 1 F_Cursor___init__) := by
  have sc := sc_Cursor___init__
  exact fn_init (Γ' := [some 1, some 0]) T.F_Cursor___init__ sc_Cursor___init__ rfl rfl rfl fun cdv A outer s H E hr =>
    (ssi_fld T.rc_Cursor T.n_Cursor_words (pv 0) (SE.sub (m := 0) (se_call (ok_words_of T) (hr.mono (by decide)) rfl T.m_words_of T.F_words_of.kp T.b_words_of (sa_cons (SE.sb (SB.se (sb_var 1 rfl))) sa_nil)) (leC_refl _) (Nat.zero_le _)) rfl
  (ssi_fld T.rc_Cursor T.n_Cursor_taken (pv 0) se_int rfl
  ssi_nil))
def L__law_alike_1 (R : List D → Option D) : SF :=
  (sIf (tNotF (tT (eL R (aC (e2 pIx (eV 0) (eV 2)) (aC (e2 pIx (eV 1) (eV 2)) aN))))) (sRet (eC (.bool false)))
  sSkip)
def B__law_alike (R : List D → Option D) : SF :=
  (sSeq (sIf (tT (eIsi "tuple" (eV 1))) (sSeq (sIf (tOrF (tNotF (tT (eIsi "tuple" (eV 0)))) (tV (e2 pNe (eL lenD (aC (eV 0) aN)) (eL lenD (aC (eV 1) aN))))) (sRet (eC (.bool false)))
  sSkip)
  (sSeq (sForE (aRng1 (aC (eL lenD (aC (eV 1) aN)) aN)) (gN 2) (L__law_alike_1 R))
  (sRet (eC (.bool true)))))
  sSkip)
  (sSeq (sIf (tT (eIsi "list" (eV 1))) (sSeq (sIf (tOrF (tNotF (tT (eIsi "list" (eV 0)))) (tV (e2 pNe (eL lenD (aC (eV 0) aN)) (eL lenD (aC (eV 1) aN))))) (sRet (eC (.bool false)))
  sSkip)
  (sSeq (sForE (aRng1 (aC (eL lenD (aC (eV 1) aN)) aN)) (gN 2) (L__law_alike_1 R))
  (sRet (eC (.bool true)))))
  sSkip)
  (sSeq (sIf (tNon false (eV 1)) (sRet (eIsN false (eV 0)))
  sSkip)
  (sSeq (sIf (tV (e2 pIsBx (eV 1) (eC (.bool true)))) (sRet (e2 pIsBx (eV 0) (eC (.bool true))))
  sSkip)
  (sSeq (sIf (tV (e2 pIsBx (eV 1) (eC (.bool false)))) (sRet (e2 pIsBx (eV 0) (eC (.bool false))))
  sSkip)
  (sSeq (sIf (tT (eIsi "str" (eV 1))) (sRet (eAnd (eIsi "str" (eV 0)) (e2 pEq (eV 0) (eV 1))))
  sSkip)
  (sRet (eAnd (eIsi "int" (eV 0)) (eAnd (eNot (eIsi "bool" (eV 0))) (e2 pEq (eV 0) (eV 1)))))))))))
def R__law_alike : Nat → List D → Option D
  | 0 => fun _ => none
  | n + 1 => runF 0 2 3 (B__law_alike (R__law_alike n))
def F__law_alike : List D → Option D := R__law_alike 40
theorem sc__law_alike : FnScope ["actual", "expected", "k"] ["actual", "expected"] (defScope (topS 45)) := ⟨rfl, rfl, rfl, by decide +kernel, rfl, by decide +kernel, by decide +kernel⟩
theorem rec__law_alike [PC_Cursor] (T : Txt w K mg) : ∀ n : Nat, FnOk P w K mg base CX0 (0 + n) T.a__law_alike T.d__law_alike ["actual", "expected"] (Pure K 2 0 (R__law_alike n))
  | 0 => none_fn (by rfl)
  | n + 1 => by
    have ih := rec__law_alike T n
    have sc := sc__law_alike
    exact fn_pure (Γ' := []) T.F__law_alike sc__law_alike rfl fun cdv A outer s H E hr =>
      (ss_cons (ss_if (st_truth (SE.sb (se_isi kitOk_tuple rfl T.z_isinstance rfl T.z_tuple (by decide +kernel) (sb_var 1 rfl)))) (ss_cons (ss_if (STw.ts (sw_or (st_not (st_truth (SE.sb (se_isi kitOk_tuple rfl T.z_isinstance rfl T.z_tuple (by decide +kernel) (sb_var 0 rfl))))) (sw_or1 (st_ne (hu64 hr) (SE.sb (se_len rfl T.z_len (sb_var 0 rfl))) (SE.sb (se_len rfl T.z_len (sb_var 1 rfl))))))) (ss_one (ss_ret se_bl (by decide)))
  (SSs.sub (Γ' := [some 0, some 0, none]) ss_nil rfl))
  (ss_cons (ss_for [some 0, some 0, none] PySem.PassesOwn.never rfl (si_range1 rfl T.z_range (SE.sb (se_len rfl T.z_len (sb_var 1 rfl)))) rfl (sg_name 2 sc.nd)
  (SSs.sub (Γ' := [some 0, some 0, none]) (ss_one (ss_if (st_not (st_truth (SE.sb (se_call ih hr rfl T.m__law_alike T.F__law_alike.kp T.b__law_alike (sa_cons (SE.sb (se_ixA (sb_var 0 rfl) (sb_var 2 rfl))) (sa_cons (SE.sb (se_ixA (sb_var 1 rfl) (sb_var 2 rfl))) sa_nil)))))) (ss_one (ss_ret se_bl (by decide)))
  (SSs.sub (Γ' := [some 0, some 0, some 0]) ss_nil rfl))) rfl))
  (ss_one (ss_ret se_bl (by decide)))))
  (SSs.sub (Γ' := [some 0, some 0, none]) ss_nil rfl))
  (ss_cons (ss_if (st_truth (SE.sb (se_isi kitOk_list rfl T.z_isinstance rfl T.z_list (by decide +kernel) (sb_var 1 rfl)))) (ss_cons (ss_if (STw.ts (sw_or (st_not (st_truth (SE.sb (se_isi kitOk_list rfl T.z_isinstance rfl T.z_list (by decide +kernel) (sb_var 0 rfl))))) (sw_or1 (st_ne (hu64 hr) (SE.sb (se_len rfl T.z_len (sb_var 0 rfl))) (SE.sb (se_len rfl T.z_len (sb_var 1 rfl))))))) (ss_one (ss_ret se_bl (by decide)))
  (SSs.sub (Γ' := [some 0, some 0, none]) ss_nil rfl))
  (ss_cons (ss_for [some 0, some 0, none] PySem.PassesOwn.never rfl (si_range1 rfl T.z_range (SE.sb (se_len rfl T.z_len (sb_var 1 rfl)))) rfl (sg_name 2 sc.nd)
  (SSs.sub (Γ' := [some 0, some 0, none]) (ss_one (ss_if (st_not (st_truth (SE.sb (se_call ih hr rfl T.m__law_alike T.F__law_alike.kp T.b__law_alike (sa_cons (SE.sb (se_ixA (sb_var 0 rfl) (sb_var 2 rfl))) (sa_cons (SE.sb (se_ixA (sb_var 1 rfl) (sb_var 2 rfl))) sa_nil)))))) (ss_one (ss_ret se_bl (by decide)))
  (SSs.sub (Γ' := [some 0, some 0, some 0]) ss_nil rfl))) rfl))
  (ss_one (ss_ret se_bl (by decide)))))
  (SSs.sub (Γ' := [some 0, some 0, none]) ss_nil rfl))
  (ss_cons (ss_if (st_isN (sb_var 1 rfl)) (ss_one (ss_ret (se_isN (sb_var 0 rfl)) (by decide)))
  (SSs.sub (Γ' := [some 0, some 0, none]) ss_nil rfl))
  (ss_cons (ss_if (st_isBx (sb_var 1 rfl) (SE.sb se_bl)) (ss_one (ss_ret (se_isBx (sb_var 0 rfl) (SE.sb se_bl)) (by decide)))
  (SSs.sub (Γ' := [some 0, some 0, none]) ss_nil rfl))
  (ss_cons (ss_if (st_isBx (sb_var 1 rfl) (SE.sb se_bl)) (ss_one (ss_ret (se_isBx (sb_var 0 rfl) (SE.sb se_bl)) (by decide)))
  (SSs.sub (Γ' := [some 0, some 0, none]) ss_nil rfl))
  (ss_cons (ss_if (st_truth (SE.sb (se_isi kitOk_str rfl T.z_isinstance rfl T.z_str (by decide +kernel) (sb_var 1 rfl)))) (ss_one (ss_ret (se_and (se_isi kitOk_str rfl T.z_isinstance rfl T.z_str (by decide +kernel) (sb_var 0 rfl)) (se_one (se_eq (hu64 hr) (sb_var 0 rfl) (sb_var 1 rfl)))) (by decide)))
  (SSs.sub (Γ' := [some 0, some 0, none]) ss_nil rfl))
  (ss_one (ss_ret (se_and (se_isi kitOk_int rfl T.z_isinstance rfl T.z_int (by decide +kernel) (sb_var 0 rfl)) (se_and (se_not (se_isi kitOk_bool rfl T.z_isinstance rfl T.z_bool (by decide +kernel) (sb_var 0 rfl))) (se_one (se_eq (hu64 hr) (sb_var 0 rfl) (sb_var 1 rfl))))) (by decide)))))))))
theorem ok__law_alike [PC_Cursor] (T : Txt w K mg) : FnOk P w K mg base CX0 40 T.a__law_alike T.d__law_alike ["actual", "expected"] (Pure K 2 0 F__law_alike) := rec__law_alike T 40
def B__law_tree (R : List D → Option D) : SF :=
  (sSeq (sSet 2 (eLst (aC (eLst (aC (eC (.str (Str.ofString "implies"))) aN)) (aC (eLst (aC (eC (.str (Str.ofString "or"))) aN)) (aC (eLst (aC (eC (.str (Str.ofString "and"))) aN)) (aC (eLst (aC (eC (.str (Str.ofString "since"))) aN)) (aC (eLst (aC (eC (.str (Str.ofString "not"))) (aC (eC (.str (Str.ofString "before"))) (aC (eC (.str (Str.ofString "once"))) aN)))) (aC (eLst (aC (eC (.str (Str.ofString "<"))) (aC (eC (.str (Str.ofString "<="))) (aC (eC (.str (Str.ofString "="))) (aC (eC (.str (Str.ofString "!="))) (aC (eC (.str (Str.ofString ">="))) (aC (eC (.str (Str.ofString ">"))) aN))))))) (aC (eLst (aC (eC (.str (Str.ofString "+"))) (aC (eC (.str (Str.ofString "-"))) aN))) (aC (eLst (aC (eC (.str (Str.ofString "*"))) aN)) aN))))))))))
  (sSeq (sIf (tV (e2 pEq (eV 1) (eC (.int 8)))) (sSeq (sIf (tV (e2 pEq (e2 pIx (eV 0) (eC (.int 0))) (eC (.str (Str.ofString "neg"))))) (sRet (eTup (aC (eC (.str (Str.ofString "negative"))) (aC (eL R (aC (eSl pSlL (eV 0) (oS (eC (.int 1))) oN) (aC (eC (.int 8)) aN))) aN))))
  sSkip)
  (sSeq (sIf (tV (e2 pIn (e2 pIx (eV 0) (eC (.int 0))) (eLst (aC (eC (.str (Str.ofString "3"))) (aC (eC (.str (Str.ofString "0"))) (aC (eC (.str (Str.ofString "12"))) aN)))))) (sRet (eTup (aC (eC (.str (Str.ofString "number"))) (aC (eL intTD (aC (e2 pIx (eV 0) (eC (.int 0))) aN)) aN))))
  sSkip)
  (sRet (eTup (aC (eC (.str (Str.ofString "name"))) (aC (e2 pIx (eV 0) (eC (.int 0))) aN))))))
  sSkip)
  (sSeq (sIf (tV (e2 pEq (eV 1) (eC (.int 4)))) (sSeq (sIf (tAndF (tV (e2 pIn (e2 pIx (eV 0) (eC (.int 0))) (e2 pIx (eV 2) (eC (.int 4))))) (tV (e2 pEq (e2 pIx (eV 0) (eC (.int 0))) (eC (.str (Str.ofString "once")))))) (sRet (eTup (aC (eC (.str (Str.ofString "once"))) (aC (eC .none) (aC (eL R (aC (eSl pSlL (eV 0) (oS (eC (.int 1))) oN) (aC (eC (.int 4)) aN))) aN)))))
  sSkip)
  (sSeq (sIf (tV (e2 pIn (e2 pIx (eV 0) (eC (.int 0))) (e2 pIx (eV 2) (eC (.int 4))))) (sRet (eTup (aC (e2 pIx (eV 0) (eC (.int 0))) (aC (eL R (aC (eSl pSlL (eV 0) (oS (eC (.int 1))) oN) (aC (eC (.int 4)) aN))) aN))))
  sSkip)
  (sRet (eL R (aC (eV 0) (aC (eC (.int 5)) aN))))))
  sSkip)
  (sSeq (sSet 3 (eL F__law_split (aC (eV 0) (aC (e2 pIx (eV 2) (eV 1)) (aC (e2 pNe (eV 1) (eC (.int 0))) aN)))))
  (sSeq (sIf (tV (e2 pLt (eV 3) (eC (.int 0)))) (sRet (eL R (aC (eV 0) (aC (e2 pAdd (eV 1) (eC (.int 1))) aN))))
  sSkip)
  (sSeq (sIf (tV (e2 pEq (eV 1) (eC (.int 0)))) (sRet (eTup (aC (eC (.str (Str.ofString "implies"))) (aC (eL R (aC (eSl pSlL (eV 0) oN (oS (eV 3))) (aC (eC (.int 1)) aN))) (aC (eL R (aC (eSl pSlL (eV 0) (oS (e2 pAdd (eV 3) (eC (.int 1)))) oN) (aC (eC (.int 0)) aN))) aN)))))
  sSkip)
  (sSeq (sSet 4 (eL R (aC (eSl pSlL (eV 0) oN (oS (eV 3))) (aC (eV 1) aN))))
  (sSeq (sSet 5 (eL R (aC (eSl pSlL (eV 0) (oS (e2 pAdd (eV 3) (eC (.int 1)))) oN) (aC (e2 pAdd (eV 1) (eC (.int 1))) aN))))
  (sSeq (sIf (tV (e2 pEq (eV 1) (eC (.int 5)))) (sRet (eTup (aC (eC (.str (Str.ofString "compare"))) (aC (e2 pIx (eV 0) (eV 3)) (aC (eV 4) (aC (eV 5) aN))))))
  sSkip)
  (sSeq (sIf (tV (e2 pGt (eV 1) (eC (.int 5)))) (sRet (eTup (aC (eC (.str (Str.ofString "sum"))) (aC (e2 pIx (eV 0) (eV 3)) (aC (eV 4) (aC (eV 5) aN))))))
  sSkip)
  (sRet (eTup (aC (e2 pIx (eV 0) (eV 3)) (aC (eV 4) (aC (eV 5) aN)))))))))))))))
def R__law_tree : Nat → List D → Option D
  | 0 => fun _ => none
  | n + 1 => runF 1 2 6 (B__law_tree (R__law_tree n))
def F__law_tree : List D → Option D := R__law_tree 40
theorem sc__law_tree : FnScope ["words", "level", "groups", "at", "left", "right"] ["words", "level"] (defScope (topS 48)) := ⟨rfl, rfl, rfl, by decide +kernel, rfl, by decide +kernel, by decide +kernel⟩
theorem rec__law_tree [PC_Cursor] (T : Txt w K mg) : ∀ n : Nat, FnOk P w K mg base CX0 (1 + n) T.a__law_tree T.d__law_tree ["words", "level"] (Pure K 2 1 (R__law_tree n))
  | 0 => none_fn (by rfl)
  | n + 1 => by
    have ih := rec__law_tree T n
    have sc := sc__law_tree
    exact fn_pure (Γ' := []) T.F__law_tree sc__law_tree rfl fun cdv A outer s H E hr =>
      (ss_cons (ss_set 2 (se_lst (sa_cons (SE.sb (SE.sub (m := 0) (se_lst (sa_cons (SE.sb se_str) sa_nil)) (leC_refl _) (Nat.zero_le _))) (sa_cons (SE.sb (SE.sub (m := 0) (se_lst (sa_cons (SE.sb se_str) sa_nil)) (leC_refl _) (Nat.zero_le _))) (sa_cons (SE.sb (SE.sub (m := 0) (se_lst (sa_cons (SE.sb se_str) sa_nil)) (leC_refl _) (Nat.zero_le _))) (sa_cons (SE.sb (SE.sub (m := 0) (se_lst (sa_cons (SE.sb se_str) sa_nil)) (leC_refl _) (Nat.zero_le _))) (sa_cons (SE.sb (SE.sub (m := 0) (se_lst (sa_cons (SE.sb se_str) (sa_cons (SE.sb se_str) (sa_cons (SE.sb se_str) sa_nil)))) (leC_refl _) (Nat.zero_le _))) (sa_cons (SE.sb (SE.sub (m := 0) (se_lst (sa_cons (SE.sb se_str) (sa_cons (SE.sb se_str) (sa_cons (SE.sb se_str) (sa_cons (SE.sb se_str) (sa_cons (SE.sb se_str) (sa_cons (SE.sb se_str) sa_nil))))))) (leC_refl _) (Nat.zero_le _))) (sa_cons (SE.sb (SE.sub (m := 0) (se_lst (sa_cons (SE.sb se_str) (sa_cons (SE.sb se_str) sa_nil))) (leC_refl _) (Nat.zero_le _))) (sa_cons (SE.sb (SE.sub (m := 0) (se_lst (sa_cons (SE.sb se_str) sa_nil)) (leC_refl _) (Nat.zero_le _))) sa_nil))))))))) sc.nd)
  (ss_cons (ss_if (st_eq (hu64 hr) (sb_var 1 rfl) (SE.sb se_int)) (ss_cons (ss_if (st_eq (hu64 hr) (SE.sb (se_ixA (sb_var 0 rfl) (SE.sb se_int))) (SE.sb se_str)) (ss_one (ss_ret (se_tup1 (se_tup (sa_cons (SE.sb se_str) (sa_cons (SE.sb (SE.sub (m := 0) (se_call ih hr rfl T.m__law_tree T.F__law_tree.kp T.b__law_tree (sa_cons (SE.sb (SE.sub (m := 0) (se_slL (sb_var 0 rfl) (so_some (SE.sb se_int)) so_none) (leC_refl _) (Nat.zero_le _))) (sa_cons (SE.sb se_int) sa_nil))) (leC_refl _) (Nat.zero_le _))) sa_nil)))) (by decide)))
  (SSs.sub (Γ' := [some 0, some 0, some 1, none, none, none]) ss_nil rfl))
  (ss_cons (ss_if (st_in (hu65 hr) (SE.sb (se_ixA (sb_var 0 rfl) (SE.sb se_int))) (SE.sb (se_lst (sa_cons (SE.sb se_str) (sa_cons (SE.sb se_str) (sa_cons (SE.sb se_str) sa_nil)))))) (ss_one (ss_ret (se_tup1 (se_tup (sa_cons (SE.sb se_str) (sa_cons (SE.sb (se_intT rfl T.z_int (SE.sb (se_ixA (sb_var 0 rfl) (SE.sb se_int))))) sa_nil)))) (by decide)))
  (SSs.sub (Γ' := [some 0, some 0, some 1, none, none, none]) ss_nil rfl))
  (ss_one (ss_ret (se_tup1 (se_tup (sa_cons (SE.sb se_str) (sa_cons (SE.sb (se_ixA (sb_var 0 rfl) (SE.sb se_int))) sa_nil)))) (by decide)))))
  (SSs.sub (Γ' := [some 0, some 0, some 1, none, none, none]) ss_nil rfl))
  (ss_cons (ss_if (st_eq (hu64 hr) (sb_var 1 rfl) (SE.sb se_int)) (ss_cons (ss_if (STw.ts (sw_and (st_in (hu65 hr) (SE.sb (se_ixA (sb_var 0 rfl) (SE.sb se_int))) (SE.sb (se_ixA (sb_var 2 rfl) (SE.sb se_int)))) (sw_and1 (st_eq (hu64 hr) (SE.sb (se_ixA (sb_var 0 rfl) (SE.sb se_int))) (SE.sb se_str))))) (ss_one (ss_ret (se_tup1 (se_tup (sa_cons (SE.sb se_str) (sa_cons (SE.sb se_non) (sa_cons (SE.sb (SE.sub (m := 0) (se_call ih hr rfl T.m__law_tree T.F__law_tree.kp T.b__law_tree (sa_cons (SE.sb (SE.sub (m := 0) (se_slL (sb_var 0 rfl) (so_some (SE.sb se_int)) so_none) (leC_refl _) (Nat.zero_le _))) (sa_cons (SE.sb se_int) sa_nil))) (leC_refl _) (Nat.zero_le _))) sa_nil))))) (by decide)))
  (SSs.sub (Γ' := [some 0, some 0, some 1, none, none, none]) ss_nil rfl))
  (ss_cons (ss_if (st_in (hu65 hr) (SE.sb (se_ixA (sb_var 0 rfl) (SE.sb se_int))) (SE.sb (se_ixA (sb_var 2 rfl) (SE.sb se_int)))) (ss_one (ss_ret (se_tup1 (se_tup (sa_cons (SE.sb (se_ixA (sb_var 0 rfl) (SE.sb se_int))) (sa_cons (SE.sb (SE.sub (m := 0) (se_call ih hr rfl T.m__law_tree T.F__law_tree.kp T.b__law_tree (sa_cons (SE.sb (SE.sub (m := 0) (se_slL (sb_var 0 rfl) (so_some (SE.sb se_int)) so_none) (leC_refl _) (Nat.zero_le _))) (sa_cons (SE.sb se_int) sa_nil))) (leC_refl _) (Nat.zero_le _))) sa_nil)))) (by decide)))
  (SSs.sub (Γ' := [some 0, some 0, some 1, none, none, none]) ss_nil rfl))
  (ss_one (ss_ret (se_call ih hr rfl T.m__law_tree T.F__law_tree.kp T.b__law_tree (sa_cons (SE.sb (SB.se (sb_var 0 rfl))) (sa_cons (SE.sb se_int) sa_nil))) (by decide)))))
  (SSs.sub (Γ' := [some 0, some 0, some 1, none, none, none]) ss_nil rfl))
  (ss_cons (ss_set 3 (se_call (ok__law_split T) (hr.mono (Nat.le_add_right_of_le (by decide))) rfl T.m__law_split T.F__law_split.kp T.b__law_split (sa_cons (SE.sb (SB.se (sb_var 0 rfl))) (sa_cons (SE.sb (se_ixA (sb_var 2 rfl) (sb_var 1 rfl))) (sa_cons (SE.sb (se_ne (hu64 hr) (sb_var 1 rfl) (SE.sb se_int))) sa_nil)))) sc.nd)
  (ss_cons (ss_if (st_lt (sb_var 3 rfl) (SE.sb se_int)) (ss_one (ss_ret (se_call ih hr rfl T.m__law_tree T.F__law_tree.kp T.b__law_tree (sa_cons (SE.sb (SB.se (sb_var 0 rfl))) (sa_cons (SE.sb (se_add (sb_var 1 rfl) (SE.sb se_int))) sa_nil))) (by decide)))
  (SSs.sub (Γ' := [some 0, some 0, some 1, some 0, none, none]) ss_nil rfl))
  (ss_cons (ss_if (st_eq (hu64 hr) (sb_var 1 rfl) (SE.sb se_int)) (ss_one (ss_ret (se_tup1 (se_tup (sa_cons (SE.sb se_str) (sa_cons (SE.sb (SE.sub (m := 0) (se_call ih hr rfl T.m__law_tree T.F__law_tree.kp T.b__law_tree (sa_cons (SE.sb (SE.sub (m := 0) (se_slL (sb_var 0 rfl) so_none (so_some (sb_var 3 rfl))) (leC_refl _) (Nat.zero_le _))) (sa_cons (SE.sb se_int) sa_nil))) (leC_refl _) (Nat.zero_le _))) (sa_cons (SE.sb (SE.sub (m := 0) (se_call ih hr rfl T.m__law_tree T.F__law_tree.kp T.b__law_tree (sa_cons (SE.sb (SE.sub (m := 0) (se_slL (sb_var 0 rfl) (so_some (SE.sb (se_add (sb_var 3 rfl) (SE.sb se_int)))) so_none) (leC_refl _) (Nat.zero_le _))) (sa_cons (SE.sb se_int) sa_nil))) (leC_refl _) (Nat.zero_le _))) sa_nil))))) (by decide)))
  (SSs.sub (Γ' := [some 0, some 0, some 1, some 0, none, none]) ss_nil rfl))
  (ss_cons (ss_set 4 (se_call ih hr rfl T.m__law_tree T.F__law_tree.kp T.b__law_tree (sa_cons (SE.sb (SE.sub (m := 0) (se_slL (sb_var 0 rfl) so_none (so_some (sb_var 3 rfl))) (leC_refl _) (Nat.zero_le _))) (sa_cons (SE.sb (SB.se (sb_var 1 rfl))) sa_nil))) sc.nd)
  (ss_cons (ss_set 5 (se_call ih hr rfl T.m__law_tree T.F__law_tree.kp T.b__law_tree (sa_cons (SE.sb (SE.sub (m := 0) (se_slL (sb_var 0 rfl) (so_some (SE.sb (se_add (sb_var 3 rfl) (SE.sb se_int)))) so_none) (leC_refl _) (Nat.zero_le _))) (sa_cons (SE.sb (se_add (sb_var 1 rfl) (SE.sb se_int))) sa_nil))) sc.nd)
  (ss_cons (ss_if (st_eq (hu64 hr) (sb_var 1 rfl) (SE.sb se_int)) (ss_one (ss_ret (se_tup1 (se_tup (sa_cons (SE.sb se_str) (sa_cons (SE.sb (se_ixA (sb_var 0 rfl) (sb_var 3 rfl))) (sa_cons (SE.sb (se_fz 4 rfl)) (sa_cons (SE.sb (se_fz 5 rfl)) sa_nil)))))) (by decide)))
  (SSs.sub (Γ' := [some 0, some 0, some 1, some 0, some 1, some 1]) ss_nil rfl))
  (ss_cons (ss_if (st_gt (sb_var 1 rfl) (SE.sb se_int)) (ss_one (ss_ret (se_tup1 (se_tup (sa_cons (SE.sb se_str) (sa_cons (SE.sb (se_ixA (sb_var 0 rfl) (sb_var 3 rfl))) (sa_cons (SE.sb (se_fz 4 rfl)) (sa_cons (SE.sb (se_fz 5 rfl)) sa_nil)))))) (by decide)))
  (SSs.sub (Γ' := [some 0, some 0, some 1, some 0, some 1, some 1]) ss_nil rfl))
  (ss_one (ss_ret (se_tup1 (se_tup (sa_cons (SE.sb (se_ixA (sb_var 0 rfl) (sb_var 3 rfl))) (sa_cons (SE.sb (se_fz 4 rfl)) (sa_cons (SE.sb (se_fz 5 rfl)) sa_nil))))) (by decide)))))))))))))
theorem ok__law_tree [PC_Cursor] (T : Txt w K mg) : FnOk P w K mg base CX0 41 T.a__law_tree T.d__law_tree ["words", "level"] (Pure K 2 1 F__law_tree) := rec__law_tree T 40
def B_take_expression [PC_Cursor] (R : Nat → List D → Option D) : SF :=
  (sSeq (sAsgM 0 (gTpl (gMore (gN 3) (gMore (gN 4) gEmp)) 2) (eLS 0 (R 1) (aC (eV 1) aN)))
  (sSeq (sIf (tV (e2 pNe (eMeth PC_Cursor.C "word_here" (flatF F_Cursor_word_here) (eV 0) aN) (eC (.str (Str.ofString "implies"))))) (sRetJ 0 (eTup (aC (eV 3) (aC (eV 4) aN))))
  sSkip)
  (sSeq (sStay (sSet 2 (eL (flatF F_level_below) (aC (eV 0) (aC (eV 1) aN)))))
  (sSeq (sExprM 0 (eMS 0 PC_Cursor.C "take" F_Cursor_take aN))
  (sSeq (sAsgM 0 (gTpl (gMore (gN 5) (gMore (gN 6) gEmp)) 2) (eLS 0 (R 0) (aC (eV 2) aN)))
  (sRetJ 0 (eTup (aC (eTup (aC (eC (.str (Str.ofString "implies"))) (aC (eV 3) (aC (eV 5) aN)))) (aC (e2 pAdd (eC (.int 1)) (eL maxD (aC (eV 4) (aC (eV 6) aN)))) aN)))))))))
def B_take_choice [PC_Cursor] (R : Nat → List D → Option D) : SF :=
  (sRet (eLS 0 (R 11) (aC (eV 1) (aC (eTup (aC (eC (.str (Str.ofString "or"))) aN)) aN))))
def B_take_union [PC_Cursor] (R : Nat → List D → Option D) : SF :=
  (sRet (eLS 0 (R 12) (aC (eV 1) (aC (eTup (aC (eC (.str (Str.ofString "and"))) aN)) aN))))
def B_take_past [PC_Cursor] (R : Nat → List D → Option D) : SF :=
  (sRet (eLS 0 (R 13) (aC (eV 1) (aC (eTup (aC (eC (.str (Str.ofString "since"))) aN)) aN))))
def B_take_prefix [PC_Cursor] (R : Nat → List D → Option D) : SF :=
  (sSeq (sIf (tV (eInG true k_PREFIXES (eMeth PC_Cursor.C "word_here" (flatF F_Cursor_word_here) (eV 0) aN))) (sRet (eLS 0 (R 5) (aC (eV 1) aN)))
  sSkip)
  (sSeq (sStay (sSet 2 (eL (flatF F_level_below) (aC (eV 0) (aC (eV 1) aN)))))
  (sSeq (sSetM 0 3 (eMS 0 PC_Cursor.C "take" F_Cursor_take aN))
  (sSeq (sIf (tV (e2 pEq (eV 3) (eC (.str (Str.ofString "all"))))) (sSeq (sExprM 0 (eMS 0 PC_Cursor.C "take_only" F_Cursor_take_only (aC (eC (.str (Str.ofString "next"))) aN)))
  (sStay (sSet 3 (eC (.str (Str.ofString "allnext"))))))
  sSkip)
  (sSeq (sSetM 0 4 (eIf (tV (eInG false k_TIMED (eV 3))) (eLS 0 F_take_limit aN) (eOfM 0 (eC .none))))
  (sSeq (sAsgM 0 (gTpl (gMore (gN 5) (gMore (gN 6) gEmp)) 2) (eLS 0 (R 4) (aC (eV 2) aN)))
  (sSeq (sIf (tV (eInG false k_TIMED (eV 3))) (sRetJ 0 (eTup (aC (eTup (aC (eV 3) (aC (eV 4) (aC (eV 5) aN)))) (aC (e2 pAdd (eV 6) (eC (.int 1))) aN))))
  sSkip)
  (sRetJ 0 (eTup (aC (eTup (aC (eV 3) (aC (eV 5) aN))) (aC (e2 pAdd (eV 6) (eC (.int 1))) aN)))))))))))
def B_take_comparison [PC_Cursor] (R : Nat → List D → Option D) : SF :=
  (sSeq (sAsgM 0 (gTpl (gMore (gN 3) (gMore (gN 4) gEmp)) 2) (eLS 0 (R 6) (aC (eV 1) aN)))
  (sSeq (sIf (tV (eInG true k_COMPARISONS (eMeth PC_Cursor.C "word_here" (flatF F_Cursor_word_here) (eV 0) aN))) (sRetJ 0 (eTup (aC (eV 3) (aC (eV 4) aN))))
  sSkip)
  (sSeq (sSetM 0 2 (eMS 0 PC_Cursor.C "take" F_Cursor_take aN))
  (sSeq (sAsgM 0 (gTpl (gMore (gN 5) (gMore (gN 6) gEmp)) 2) (eLS 0 (R 6) (aC (eV 1) aN)))
  (sRetJ 0 (eTup (aC (eTup (aC (eC (.str (Str.ofString "compare"))) (aC (eV 2) (aC (eV 3) (aC (eV 5) aN))))) (aC (e2 pAdd (eC (.int 1)) (eL maxD (aC (eV 4) (aC (eV 6) aN)))) aN))))))))
def B_take_sum [PC_Cursor] (R : Nat → List D → Option D) : SF :=
  (sRet (eLS 0 (R 14) (aC (eV 1) (aC (eTup (aC (eC (.str (Str.ofString "+"))) (aC (eC (.str (Str.ofString "-"))) aN))) aN))))
def B_take_product [PC_Cursor] (R : Nat → List D → Option D) : SF :=
  (sRet (eLS 0 (R 15) (aC (eV 1) (aC (eTup (aC (eC (.str (Str.ofString "*"))) aN)) aN))))
def B_take_negation [PC_Cursor] (R : Nat → List D → Option D) : SF :=
  (sSeq (sIf (tV (e2 pNe (eMeth PC_Cursor.C "word_here" (flatF F_Cursor_word_here) (eV 0) aN) (eC (.str (Str.ofString "-"))))) (sRet (eLS 0 (R 9) (aC (eV 1) aN)))
  sSkip)
  (sSeq (sStay (sSet 2 (eL (flatF F_level_below) (aC (eV 0) (aC (eV 1) aN)))))
  (sSeq (sExprM 0 (eMS 0 PC_Cursor.C "take" F_Cursor_take aN))
  (sSeq (sAsgM 0 (gTpl (gMore (gN 3) (gMore (gN 4) gEmp)) 2) (eLS 0 (R 8) (aC (eV 2) aN)))
  (sRetJ 0 (eTup (aC (eTup (aC (eC (.str (Str.ofString "negative"))) (aC (eV 3) aN))) (aC (e2 pAdd (eV 4) (eC (.int 1))) aN))))))))
def B_take_atom [PC_Cursor] (R : Nat → List D → Option D) : SF :=
  (sSeq (sStay (sSet 2 (eMeth PC_Cursor.C "word_here" (flatF F_Cursor_word_here) (eV 0) aN)))
  (sSeq (sIf (tV (e2 pEq (eV 2) (eC (.str (Str.ofString "("))))) (sSeq (sStay (sSet 3 (eL (flatF F_level_below) (aC (eV 0) (aC (eV 1) aN)))))
  (sSeq (sExprM 0 (eMS 0 PC_Cursor.C "take" F_Cursor_take aN))
  (sSeq (sAsgM 0 (gTpl (gMore (gN 4) (gMore (gN 5) gEmp)) 2) (eLS 0 (R 0) (aC (eV 3) aN)))
  (sSeq (sExprM 0 (eMS 0 PC_Cursor.C "take_only" F_Cursor_take_only (aC (eC (.str (Str.ofString ")"))) aN)))
  (sRetJ 0 (eTup (aC (eV 4) (aC (eV 5) aN))))))))
  sSkip)
  (sSeq (sIf (tInGS k_MINIMUM_AND_MAXIMUM false (eV 2)) (sRet (eLS 0 (R 10) (aC (eV 1) aN)))
  sSkip)
  (sRet (eTupM (aHereM 0 (eLS 0 F_take_leaf aN) (aC (eC (.int 0)) aN)))))))
def B_take_pair [PC_Cursor] (R : Nat → List D → Option D) : SF :=
  (sSeq (sStay (sSet 2 (eL (flatF F_level_below) (aC (eV 0) (aC (eV 1) aN)))))
  (sSeq (sSetM 0 3 (eMS 0 PC_Cursor.C "take" F_Cursor_take aN))
  (sSeq (sExprM 0 (eMS 0 PC_Cursor.C "take_only" F_Cursor_take_only (aC (eC (.str (Str.ofString "("))) aN)))
  (sSeq (sAsgM 0 (gTpl (gMore (gN 4) (gMore (gN 5) gEmp)) 2) (eLS 0 (R 0) (aC (eV 2) aN)))
  (sSeq (sExprM 0 (eMS 0 PC_Cursor.C "take_only" F_Cursor_take_only (aC (eC (.str (Str.ofString ","))) aN)))
  (sSeq (sAsgM 0 (gTpl (gMore (gN 6) (gMore (gN 7) gEmp)) 2) (eLS 0 (R 0) (aC (eV 2) aN)))
  (sSeq (sExprM 0 (eMS 0 PC_Cursor.C "take_only" F_Cursor_take_only (aC (eC (.str (Str.ofString ")"))) aN)))
  (sRetJ 0 (eTup (aC (eTup (aC (eIxGS k_MINIMUM_AND_MAXIMUM (eV 3)) (aC (eV 4) (aC (eV 6) aN)))) (aC (e2 pAdd (eC (.int 1)) (eL maxD (aC (eV 5) (aC (eV 7) aN)))) aN)))))))))))
def L_take_joined__take_union_1 [PC_Cursor] (R : Nat → List D → Option D) : SF :=
  (sSeq (sSetM 0 6 (eMS 0 PC_Cursor.C "take" F_Cursor_take aN))
  (sSeq (sAsgM 0 (gTpl (gMore (gN 7) (gMore (gN 8) gEmp)) 2) (eLS 0 (R 2) (aC (eV 1) aN)))
  (sSeq (sStay (sSet 4 (eIf (tV (eInG false k_CALCULATIONS (eV 6))) (eTup (aC (eC (.str (Str.ofString "sum"))) (aC (eV 6) (aC (eV 4) (aC (eV 7) aN))))) (eTup (aC (eV 6) (aC (eV 4) (aC (eV 7) aN)))))))
  (sStay (sSet 5 (e2 pAdd (eC (.int 1)) (eL maxD (aC (eV 5) (aC (eV 8) aN)))))))))
def B_take_joined__take_union [PC_Cursor] (R : Nat → List D → Option D) : SF :=
  (sSeq (sAsgM 0 (gTpl (gMore (gN 4) (gMore (gN 5) gEmp)) 2) (eLS 0 (R 2) (aC (eV 1) aN)))
  (sSeq (sWhile (tV (e2 pIn (eMeth PC_Cursor.C "word_here" (flatF F_Cursor_word_here) (eV 0) aN) (eV 2))) (L_take_joined__take_union_1 R))
  (sRetJ 0 (eTup (aC (eV 4) (aC (eV 5) aN))))))
def L_take_joined__take_past_1 [PC_Cursor] (R : Nat → List D → Option D) : SF :=
  (sSeq (sSetM 0 6 (eMS 0 PC_Cursor.C "take" F_Cursor_take aN))
  (sSeq (sAsgM 0 (gTpl (gMore (gN 7) (gMore (gN 8) gEmp)) 2) (eLS 0 (R 3) (aC (eV 1) aN)))
  (sSeq (sStay (sSet 4 (eIf (tV (eInG false k_CALCULATIONS (eV 6))) (eTup (aC (eC (.str (Str.ofString "sum"))) (aC (eV 6) (aC (eV 4) (aC (eV 7) aN))))) (eTup (aC (eV 6) (aC (eV 4) (aC (eV 7) aN)))))))
  (sStay (sSet 5 (e2 pAdd (eC (.int 1)) (eL maxD (aC (eV 5) (aC (eV 8) aN)))))))))
def B_take_joined__take_past [PC_Cursor] (R : Nat → List D → Option D) : SF :=
  (sSeq (sAsgM 0 (gTpl (gMore (gN 4) (gMore (gN 5) gEmp)) 2) (eLS 0 (R 3) (aC (eV 1) aN)))
  (sSeq (sWhile (tV (e2 pIn (eMeth PC_Cursor.C "word_here" (flatF F_Cursor_word_here) (eV 0) aN) (eV 2))) (L_take_joined__take_past_1 R))
  (sRetJ 0 (eTup (aC (eV 4) (aC (eV 5) aN))))))
def L_take_joined__take_prefix_1 [PC_Cursor] (R : Nat → List D → Option D) : SF :=
  (sSeq (sSetM 0 6 (eMS 0 PC_Cursor.C "take" F_Cursor_take aN))
  (sSeq (sAsgM 0 (gTpl (gMore (gN 7) (gMore (gN 8) gEmp)) 2) (eLS 0 (R 4) (aC (eV 1) aN)))
  (sSeq (sStay (sSet 4 (eIf (tV (eInG false k_CALCULATIONS (eV 6))) (eTup (aC (eC (.str (Str.ofString "sum"))) (aC (eV 6) (aC (eV 4) (aC (eV 7) aN))))) (eTup (aC (eV 6) (aC (eV 4) (aC (eV 7) aN)))))))
  (sStay (sSet 5 (e2 pAdd (eC (.int 1)) (eL maxD (aC (eV 5) (aC (eV 8) aN)))))))))
def B_take_joined__take_prefix [PC_Cursor] (R : Nat → List D → Option D) : SF :=
  (sSeq (sAsgM 0 (gTpl (gMore (gN 4) (gMore (gN 5) gEmp)) 2) (eLS 0 (R 4) (aC (eV 1) aN)))
  (sSeq (sWhile (tV (e2 pIn (eMeth PC_Cursor.C "word_here" (flatF F_Cursor_word_here) (eV 0) aN) (eV 2))) (L_take_joined__take_prefix_1 R))
  (sRetJ 0 (eTup (aC (eV 4) (aC (eV 5) aN))))))
def L_take_joined__take_product_1 [PC_Cursor] (R : Nat → List D → Option D) : SF :=
  (sSeq (sSetM 0 6 (eMS 0 PC_Cursor.C "take" F_Cursor_take aN))
  (sSeq (sAsgM 0 (gTpl (gMore (gN 7) (gMore (gN 8) gEmp)) 2) (eLS 0 (R 7) (aC (eV 1) aN)))
  (sSeq (sStay (sSet 4 (eIf (tV (eInG false k_CALCULATIONS (eV 6))) (eTup (aC (eC (.str (Str.ofString "sum"))) (aC (eV 6) (aC (eV 4) (aC (eV 7) aN))))) (eTup (aC (eV 6) (aC (eV 4) (aC (eV 7) aN)))))))
  (sStay (sSet 5 (e2 pAdd (eC (.int 1)) (eL maxD (aC (eV 5) (aC (eV 8) aN)))))))))
def B_take_joined__take_product [PC_Cursor] (R : Nat → List D → Option D) : SF :=
  (sSeq (sAsgM 0 (gTpl (gMore (gN 4) (gMore (gN 5) gEmp)) 2) (eLS 0 (R 7) (aC (eV 1) aN)))
  (sSeq (sWhile (tV (e2 pIn (eMeth PC_Cursor.C "word_here" (flatF F_Cursor_word_here) (eV 0) aN) (eV 2))) (L_take_joined__take_product_1 R))
  (sRetJ 0 (eTup (aC (eV 4) (aC (eV 5) aN))))))
def L_take_joined__take_negation_1 [PC_Cursor] (R : Nat → List D → Option D) : SF :=
  (sSeq (sSetM 0 6 (eMS 0 PC_Cursor.C "take" F_Cursor_take aN))
  (sSeq (sAsgM 0 (gTpl (gMore (gN 7) (gMore (gN 8) gEmp)) 2) (eLS 0 (R 8) (aC (eV 1) aN)))
  (sSeq (sStay (sSet 4 (eIf (tV (eInG false k_CALCULATIONS (eV 6))) (eTup (aC (eC (.str (Str.ofString "sum"))) (aC (eV 6) (aC (eV 4) (aC (eV 7) aN))))) (eTup (aC (eV 6) (aC (eV 4) (aC (eV 7) aN)))))))
  (sStay (sSet 5 (e2 pAdd (eC (.int 1)) (eL maxD (aC (eV 5) (aC (eV 8) aN)))))))))
def B_take_joined__take_negation [PC_Cursor] (R : Nat → List D → Option D) : SF :=
  (sSeq (sAsgM 0 (gTpl (gMore (gN 4) (gMore (gN 5) gEmp)) 2) (eLS 0 (R 8) (aC (eV 1) aN)))
  (sSeq (sWhile (tV (e2 pIn (eMeth PC_Cursor.C "word_here" (flatF F_Cursor_word_here) (eV 0) aN) (eV 2))) (L_take_joined__take_negation_1 R))
  (sRetJ 0 (eTup (aC (eV 4) (aC (eV 5) aN))))))
def RR [PC_Cursor] : Nat → Nat → List D → Option D
  | 0 => fun _ _ => none
  | n + 1 => fun i => match i with
    | 0 => runS 0 1 7 (B_take_expression (RR n))
    | 1 => runS 0 1 2 (B_take_choice (RR n))
    | 2 => runS 0 1 2 (B_take_union (RR n))
    | 3 => runS 0 1 2 (B_take_past (RR n))
    | 4 => runS 0 1 7 (B_take_prefix (RR n))
    | 5 => runS 0 1 7 (B_take_comparison (RR n))
    | 6 => runS 0 1 2 (B_take_sum (RR n))
    | 7 => runS 0 1 2 (B_take_product (RR n))
    | 8 => runS 0 1 5 (B_take_negation (RR n))
    | 9 => runS 0 1 6 (B_take_atom (RR n))
    | 10 => runS 0 1 8 (B_take_pair (RR n))
    | 11 => runS 0 2 9 (B_take_joined__take_union (RR n))
    | 12 => runS 0 2 9 (B_take_joined__take_past (RR n))
    | 13 => runS 0 2 9 (B_take_joined__take_prefix (RR n))
    | 14 => runS 0 2 9 (B_take_joined__take_product (RR n))
    | 15 => runS 0 2 9 (B_take_joined__take_negation (RR n))
    | _ => fun _ => none
theorem sc_take_expression : FnScope ["cursor", "level", "below", "left", "height", "right", "other"] ["cursor", "level"] (defScope (topS 26)) := ⟨rfl, rfl, rfl, by decide +kernel, rfl, by decide +kernel, by decide +kernel⟩
theorem sc_take_choice : FnScope ["cursor", "level"] ["cursor", "level"] (defScope (topS 27)) := ⟨rfl, rfl, rfl, by decide +kernel, rfl, by decide +kernel, by decide +kernel⟩
theorem sc_take_union : FnScope ["cursor", "level"] ["cursor", "level"] (defScope (topS 28)) := ⟨rfl, rfl, rfl, by decide +kernel, rfl, by decide +kernel, by decide +kernel⟩
theorem sc_take_past : FnScope ["cursor", "level"] ["cursor", "level"] (defScope (topS 29)) := ⟨rfl, rfl, rfl, by decide +kernel, rfl, by decide +kernel, by decide +kernel⟩
theorem sc_take_prefix : FnScope ["cursor", "level", "below", "word", "limit", "operand", "height"] ["cursor", "level"] (defScope (topS 31)) := ⟨rfl, rfl, rfl, by decide +kernel, rfl, by decide +kernel, by decide +kernel⟩
theorem sc_take_comparison : FnScope ["cursor", "level", "sign", "left", "height", "right", "other"] ["cursor", "level"] (defScope (topS 33)) := ⟨rfl, rfl, rfl, by decide +kernel, rfl, by decide +kernel, by decide +kernel⟩
theorem sc_take_sum : FnScope ["cursor", "level"] ["cursor", "level"] (defScope (topS 34)) := ⟨rfl, rfl, rfl, by decide +kernel, rfl, by decide +kernel, by decide +kernel⟩
theorem sc_take_product : FnScope ["cursor", "level"] ["cursor", "level"] (defScope (topS 35)) := ⟨rfl, rfl, rfl, by decide +kernel, rfl, by decide +kernel, by decide +kernel⟩
theorem sc_take_negation : FnScope ["cursor", "level", "below", "operand", "height"] ["cursor", "level"] (defScope (topS 36)) := ⟨rfl, rfl, rfl, by decide +kernel, rfl, by decide +kernel, by decide +kernel⟩
theorem sc_take_atom : FnScope ["cursor", "level", "word", "below", "tree", "height"] ["cursor", "level"] (defScope (topS 37)) := ⟨rfl, rfl, rfl, by decide +kernel, rfl, by decide +kernel, by decide +kernel⟩
theorem sc_take_pair : FnScope ["cursor", "level", "below", "word", "left", "height", "right", "other"] ["cursor", "level"] (defScope (topS 38)) := ⟨rfl, rfl, rfl, by decide +kernel, rfl, by decide +kernel, by decide +kernel⟩
theorem sc_take_joined : FnScope ["cursor", "level", "signs", "take_operand", "tree", "height", "sign", "right", "other"] ["cursor", "level", "signs", "take_operand"] (defScope (topS 30)) := ⟨rfl, rfl, rfl, by decide +kernel, rfl, by decide +kernel, by decide +kernel⟩
structure OkR [PC_Cursor] (T : Txt w K mg) (base : Heap) (P : Program) (n : Nat) : Prop where
  c0 : FnOk P w K mg base CX0 (4 + n) T.a_take_expression T.d_take_expression ["cursor", "level"] (PureS K 1 1 0 (RR n 0))
  c1 : FnOk P w K mg base CX0 (4 + n) T.a_take_choice T.d_take_choice ["cursor", "level"] (PureS K 1 1 0 (RR n 1))
  c2 : FnOk P w K mg base CX0 (4 + n) T.a_take_union T.d_take_union ["cursor", "level"] (PureS K 1 1 0 (RR n 2))
  c3 : FnOk P w K mg base CX0 (4 + n) T.a_take_past T.d_take_past ["cursor", "level"] (PureS K 1 1 0 (RR n 3))
  c4 : FnOk P w K mg base CX0 (4 + n) T.a_take_prefix T.d_take_prefix ["cursor", "level"] (PureS K 1 1 0 (RR n 4))
  c5 : FnOk P w K mg base CX0 (4 + n) T.a_take_comparison T.d_take_comparison ["cursor", "level"] (PureS K 1 1 0 (RR n 5))
  c6 : FnOk P w K mg base CX0 (4 + n) T.a_take_sum T.d_take_sum ["cursor", "level"] (PureS K 1 1 0 (RR n 6))
  c7 : FnOk P w K mg base CX0 (4 + n) T.a_take_product T.d_take_product ["cursor", "level"] (PureS K 1 1 0 (RR n 7))
  c8 : FnOk P w K mg base CX0 (4 + n) T.a_take_negation T.d_take_negation ["cursor", "level"] (PureS K 1 1 0 (RR n 8))
  c9 : FnOk P w K mg base CX0 (4 + n) T.a_take_atom T.d_take_atom ["cursor", "level"] (PureS K 1 1 0 (RR n 9))
  c10 : FnOk P w K mg base CX0 (4 + n) T.a_take_pair T.d_take_pair ["cursor", "level"] (PureS K 1 1 0 (RR n 10))
  c11 : FnOk P w K mg base CX0 (4 + n) T.a_take_joined T.d_take_joined ["cursor", "level", "signs", "take_operand"] (PureSF K 1 2 0 [V.ref T.a_take_union] (RR n 11))
  c12 : FnOk P w K mg base CX0 (4 + n) T.a_take_joined T.d_take_joined ["cursor", "level", "signs", "take_operand"] (PureSF K 1 2 0 [V.ref T.a_take_past] (RR n 12))
  c13 : FnOk P w K mg base CX0 (4 + n) T.a_take_joined T.d_take_joined ["cursor", "level", "signs", "take_operand"] (PureSF K 1 2 0 [V.ref T.a_take_prefix] (RR n 13))
  c14 : FnOk P w K mg base CX0 (4 + n) T.a_take_joined T.d_take_joined ["cursor", "level", "signs", "take_operand"] (PureSF K 1 2 0 [V.ref T.a_take_product] (RR n 14))
  c15 : FnOk P w K mg base CX0 (4 + n) T.a_take_joined T.d_take_joined ["cursor", "level", "signs", "take_operand"] (PureSF K 1 2 0 [V.ref T.a_take_negation] (RR n 15))
theorem rec_all [PC_Cursor] (T : Txt w K mg) : ∀ n : Nat, OkR T base P n
  | 0 => ⟨none_fnS (fun _ => rfl), none_fnS (fun _ => rfl), none_fnS (fun _ => rfl), none_fnS (fun _ => rfl), none_fnS (fun _ => rfl), none_fnS (fun _ => rfl), none_fnS (fun _ => rfl), none_fnS (fun _ => rfl), none_fnS (fun _ => rfl), none_fnS (fun _ => rfl), none_fnS (fun _ => rfl), none_fnSF (fun _ => rfl), none_fnSF (fun _ => rfl), none_fnSF (fun _ => rfl), none_fnSF (fun _ => rfl), none_fnSF (fun _ => rfl)⟩
  | n + 1 => by
    have ih := rec_all T n
    exact {
      c0 := by
        have sc := sc_take_expression
        exact fn_pureS (W := []) (Γ' := [some 1]) T.F_take_expression sc_take_expression rfl rfl rfl fun cdv A outer s H E hr =>
          (sj_cons (sj_asgM (sem_call 0 ih.c1 hr rfl T.m_take_choice T.F_take_choice.kp T.b_take_choice (sa_cons (SE.sb (SB.se (sb_var 1 rfl))) sa_nil)) (sg_tup rfl (sgs_cons (sg_name 3 sc.nd) (sgs_cons (sg_name 4 sc.nd) sgs_nil))))
  (sj_cons (sj_if (st_ne (hu64 hr) (SE.sb (se_mthL0 (ok_Cursor_word_here T) (hr.mono (Nat.le_add_right_of_le (by decide))) T.rc_Cursor T.me_Cursor_word_here T.b_Cursor_word_here (sb_var 0 rfl))) (SE.sb se_str)) (sj_one (sj_ret (se_tup (sa_cons (SE.sb (SB.se (sb_var 3 rfl))) (sa_cons (SE.sb (SB.se (sb_var 4 rfl))) sa_nil))) rfl (by decide)))
  (SSJ.sub (Γ' := [some 1, some 0, none, some 0, some 0, none, none]) sj_nil rfl))
  (sj_cons (sj_of (ss_set 2 (se_lend (ok_level_below T) (hr.mono (Nat.le_add_right_of_le (by decide))) rfl T.m_level_below T.F_level_below.kp T.b_level_below (sa_cons (sb_var 0 rfl) (sa_cons (sb_var 1 rfl) sa_nil))) sc.nd))
  (sj_cons (sj_exprM (sem_meth0 0 (ok_Cursor_take T) (hr.mono (Nat.le_add_right_of_le (by decide))) T.rc_Cursor T.me_Cursor_take T.b_Cursor_take))
  (sj_cons (sj_asgM (sem_call 0 ih.c0 hr rfl T.m_take_expression T.F_take_expression.kp T.b_take_expression (sa_cons (SE.sb (SB.se (sb_var 2 rfl))) sa_nil)) (sg_tup rfl (sgs_cons (sg_name 5 sc.nd) (sgs_cons (sg_name 6 sc.nd) sgs_nil))))
  (sj_one (sj_ret (se_tup (sa_cons (SE.sb (se_tup (sa_cons (SE.sb se_str) (sa_cons (SE.sb (SB.se (sb_var 3 rfl))) (sa_cons (SE.sb (SB.se (sb_var 5 rfl))) sa_nil))))) (sa_cons (SE.sb (se_add (SE.sb se_int) (SE.sb (se_max2 rfl rfl T.z_max (sa_cons (sb_var 4 rfl) (sa_cons (sb_var 6 rfl) sa_nil)))))) sa_nil))) rfl (by decide)))))))),
      c1 := by
        have sc := sc_take_choice
        exact fn_pureS (W := []) (Γ' := [some 1]) T.F_take_choice sc_take_choice rfl rfl rfl fun cdv A outer s H E hr =>
          (sj_one (sj_retM (sem_callF 0 ih.c11 hr rfl T.m_take_joined T.F_take_joined.kp T.b_take_joined (saf_cons (SE.sb (SB.se (sb_var 1 rfl))) (saf_cons (SE.sb (se_tup (sa_cons (SE.sb se_str) sa_nil))) (saf_last rfl T.m_take_union)))))),
      c2 := by
        have sc := sc_take_union
        exact fn_pureS (W := []) (Γ' := [some 1]) T.F_take_union sc_take_union rfl rfl rfl fun cdv A outer s H E hr =>
          (sj_one (sj_retM (sem_callF 0 ih.c12 hr rfl T.m_take_joined T.F_take_joined.kp T.b_take_joined (saf_cons (SE.sb (SB.se (sb_var 1 rfl))) (saf_cons (SE.sb (se_tup (sa_cons (SE.sb se_str) sa_nil))) (saf_last rfl T.m_take_past)))))),
      c3 := by
        have sc := sc_take_past
        exact fn_pureS (W := []) (Γ' := [some 1]) T.F_take_past sc_take_past rfl rfl rfl fun cdv A outer s H E hr =>
          (sj_one (sj_retM (sem_callF 0 ih.c13 hr rfl T.m_take_joined T.F_take_joined.kp T.b_take_joined (saf_cons (SE.sb (SB.se (sb_var 1 rfl))) (saf_cons (SE.sb (se_tup (sa_cons (SE.sb se_str) sa_nil))) (saf_last rfl T.m_take_prefix)))))),
      c4 := by
        have sc := sc_take_prefix
        exact fn_pureS (W := []) (Γ' := [some 1]) T.F_take_prefix sc_take_prefix rfl rfl rfl fun cdv A outer s H E hr =>
          (sj_cons (sj_if (st_notInGl T.g_PREFIXES rfl (SE.sb (se_mthL0 (ok_Cursor_word_here T) (hr.mono (Nat.le_add_right_of_le (by decide))) T.rc_Cursor T.me_Cursor_word_here T.b_Cursor_word_here (sb_var 0 rfl)))) (sj_one (sj_retM (sem_call 0 ih.c5 hr rfl T.m_take_comparison T.F_take_comparison.kp T.b_take_comparison (sa_cons (SE.sb (SB.se (sb_var 1 rfl))) sa_nil))))
  (SSJ.sub (Γ' := [some 1, some 0, none, none, none, none, none]) sj_nil rfl))
  (sj_cons (sj_of (ss_set 2 (se_lend (ok_level_below T) (hr.mono (Nat.le_add_right_of_le (by decide))) rfl T.m_level_below T.F_level_below.kp T.b_level_below (sa_cons (sb_var 0 rfl) (sa_cons (sb_var 1 rfl) sa_nil))) sc.nd))
  (sj_cons (sj_setM 3 (sem_meth0 0 (ok_Cursor_take T) (hr.mono (Nat.le_add_right_of_le (by decide))) T.rc_Cursor T.me_Cursor_take T.b_Cursor_take) sc.nd)
  (sj_cons (sj_if (st_eq (hu64 hr) (sb_var 3 rfl) (SE.sb se_str)) (SSJ.sub (Γ' := [some 1, some 0, some 0, some 0, none, none, none]) (sj_cons (sj_exprM (sem_meth 0 (ok_Cursor_take_only T) (hr.mono (Nat.le_add_right_of_le (by decide))) T.rc_Cursor T.me_Cursor_take_only T.b_Cursor_take_only (sa_cons (SE.sb se_str) sa_nil)))
  (sj_one (sj_of (ss_set 3 se_str sc.nd)))) rfl)
  (SSJ.sub (Γ' := [some 1, some 0, some 0, some 0, none, none, none]) sj_nil rfl))
  (sj_cons (sj_setM 4 (sem_if (st_inGl T.g_TIMED rfl (sb_var 3 rfl)) (sem_call 0 (ok_take_limit T) (hr.mono (Nat.le_add_right_of_le (by decide))) rfl T.m_take_limit T.F_take_limit.kp T.b_take_limit sa_nil) (sem_of se_non)) sc.nd)
  (sj_cons (sj_asgM (sem_call 0 ih.c4 hr rfl T.m_take_prefix T.F_take_prefix.kp T.b_take_prefix (sa_cons (SE.sb (SB.se (sb_var 2 rfl))) sa_nil)) (sg_tup rfl (sgs_cons (sg_name 5 sc.nd) (sgs_cons (sg_name 6 sc.nd) sgs_nil))))
  (sj_cons (sj_if (st_inGl T.g_TIMED rfl (sb_var 3 rfl)) (sj_one (sj_ret (se_tup (sa_cons (SE.sb (se_tup (sa_cons (SE.sb (SB.se (sb_var 3 rfl))) (sa_cons (SE.sb (SB.se (sb_var 4 rfl))) (sa_cons (SE.sb (SB.se (sb_var 5 rfl))) sa_nil))))) (sa_cons (SE.sb (se_add (sb_var 6 rfl) (SE.sb se_int))) sa_nil))) rfl (by decide)))
  (SSJ.sub (Γ' := [some 1, some 0, some 0, some 0, some 0, some 0, some 0]) sj_nil rfl))
  (sj_one (sj_ret (se_tup (sa_cons (SE.sb (se_tup (sa_cons (SE.sb (SB.se (sb_var 3 rfl))) (sa_cons (SE.sb (SB.se (sb_var 5 rfl))) sa_nil)))) (sa_cons (SE.sb (se_add (sb_var 6 rfl) (SE.sb se_int))) sa_nil))) rfl (by decide)))))))))),
      c5 := by
        have sc := sc_take_comparison
        exact fn_pureS (W := []) (Γ' := [some 1]) T.F_take_comparison sc_take_comparison rfl rfl rfl fun cdv A outer s H E hr =>
          (sj_cons (sj_asgM (sem_call 0 ih.c6 hr rfl T.m_take_sum T.F_take_sum.kp T.b_take_sum (sa_cons (SE.sb (SB.se (sb_var 1 rfl))) sa_nil)) (sg_tup rfl (sgs_cons (sg_name 3 sc.nd) (sgs_cons (sg_name 4 sc.nd) sgs_nil))))
  (sj_cons (sj_if (st_notInGl T.g_COMPARISONS rfl (SE.sb (se_mthL0 (ok_Cursor_word_here T) (hr.mono (Nat.le_add_right_of_le (by decide))) T.rc_Cursor T.me_Cursor_word_here T.b_Cursor_word_here (sb_var 0 rfl)))) (sj_one (sj_ret (se_tup (sa_cons (SE.sb (SB.se (sb_var 3 rfl))) (sa_cons (SE.sb (SB.se (sb_var 4 rfl))) sa_nil))) rfl (by decide)))
  (SSJ.sub (Γ' := [some 1, some 0, none, some 0, some 0, none, none]) sj_nil rfl))
  (sj_cons (sj_setM 2 (sem_meth0 0 (ok_Cursor_take T) (hr.mono (Nat.le_add_right_of_le (by decide))) T.rc_Cursor T.me_Cursor_take T.b_Cursor_take) sc.nd)
  (sj_cons (sj_asgM (sem_call 0 ih.c6 hr rfl T.m_take_sum T.F_take_sum.kp T.b_take_sum (sa_cons (SE.sb (SB.se (sb_var 1 rfl))) sa_nil)) (sg_tup rfl (sgs_cons (sg_name 5 sc.nd) (sgs_cons (sg_name 6 sc.nd) sgs_nil))))
  (sj_one (sj_ret (se_tup (sa_cons (SE.sb (se_tup (sa_cons (SE.sb se_str) (sa_cons (SE.sb (SB.se (sb_var 2 rfl))) (sa_cons (SE.sb (SB.se (sb_var 3 rfl))) (sa_cons (SE.sb (SB.se (sb_var 5 rfl))) sa_nil)))))) (sa_cons (SE.sb (se_add (SE.sb se_int) (SE.sb (se_max2 rfl rfl T.z_max (sa_cons (sb_var 4 rfl) (sa_cons (sb_var 6 rfl) sa_nil)))))) sa_nil))) rfl (by decide))))))),
      c6 := by
        have sc := sc_take_sum
        exact fn_pureS (W := []) (Γ' := [some 1]) T.F_take_sum sc_take_sum rfl rfl rfl fun cdv A outer s H E hr =>
          (sj_one (sj_retM (sem_callF 0 ih.c14 hr rfl T.m_take_joined T.F_take_joined.kp T.b_take_joined (saf_cons (SE.sb (SB.se (sb_var 1 rfl))) (saf_cons (SE.sb (se_tup (sa_cons (SE.sb se_str) (sa_cons (SE.sb se_str) sa_nil)))) (saf_last rfl T.m_take_product)))))),
      c7 := by
        have sc := sc_take_product
        exact fn_pureS (W := []) (Γ' := [some 1]) T.F_take_product sc_take_product rfl rfl rfl fun cdv A outer s H E hr =>
          (sj_one (sj_retM (sem_callF 0 ih.c15 hr rfl T.m_take_joined T.F_take_joined.kp T.b_take_joined (saf_cons (SE.sb (SB.se (sb_var 1 rfl))) (saf_cons (SE.sb (se_tup (sa_cons (SE.sb se_str) sa_nil))) (saf_last rfl T.m_take_negation)))))),
      c8 := by
        have sc := sc_take_negation
        exact fn_pureS (W := []) (Γ' := [some 1]) T.F_take_negation sc_take_negation rfl rfl rfl fun cdv A outer s H E hr =>
          (sj_cons (sj_if (st_ne (hu64 hr) (SE.sb (se_mthL0 (ok_Cursor_word_here T) (hr.mono (Nat.le_add_right_of_le (by decide))) T.rc_Cursor T.me_Cursor_word_here T.b_Cursor_word_here (sb_var 0 rfl))) (SE.sb se_str)) (sj_one (sj_retM (sem_call 0 ih.c9 hr rfl T.m_take_atom T.F_take_atom.kp T.b_take_atom (sa_cons (SE.sb (SB.se (sb_var 1 rfl))) sa_nil))))
  (SSJ.sub (Γ' := [some 1, some 0, none, none, none]) sj_nil rfl))
  (sj_cons (sj_of (ss_set 2 (se_lend (ok_level_below T) (hr.mono (Nat.le_add_right_of_le (by decide))) rfl T.m_level_below T.F_level_below.kp T.b_level_below (sa_cons (sb_var 0 rfl) (sa_cons (sb_var 1 rfl) sa_nil))) sc.nd))
  (sj_cons (sj_exprM (sem_meth0 0 (ok_Cursor_take T) (hr.mono (Nat.le_add_right_of_le (by decide))) T.rc_Cursor T.me_Cursor_take T.b_Cursor_take))
  (sj_cons (sj_asgM (sem_call 0 ih.c8 hr rfl T.m_take_negation T.F_take_negation.kp T.b_take_negation (sa_cons (SE.sb (SB.se (sb_var 2 rfl))) sa_nil)) (sg_tup rfl (sgs_cons (sg_name 3 sc.nd) (sgs_cons (sg_name 4 sc.nd) sgs_nil))))
  (sj_one (sj_ret (se_tup (sa_cons (SE.sb (se_tup (sa_cons (SE.sb se_str) (sa_cons (SE.sb (SB.se (sb_var 3 rfl))) sa_nil)))) (sa_cons (SE.sb (se_add (sb_var 4 rfl) (SE.sb se_int))) sa_nil))) rfl (by decide))))))),
      c9 := by
        have sc := sc_take_atom
        exact fn_pureS (W := []) (Γ' := [some 1]) T.F_take_atom sc_take_atom rfl rfl rfl fun cdv A outer s H E hr =>
          (sj_cons (sj_of (ss_set 2 (se_mthL0 (ok_Cursor_word_here T) (hr.mono (Nat.le_add_right_of_le (by decide))) T.rc_Cursor T.me_Cursor_word_here T.b_Cursor_word_here (sb_var 0 rfl)) sc.nd))
  (sj_cons (sj_if (st_eq (hu64 hr) (sb_var 2 rfl) (SE.sb se_str)) (sj_cons (sj_of (ss_set 3 (se_lend (ok_level_below T) (hr.mono (Nat.le_add_right_of_le (by decide))) rfl T.m_level_below T.F_level_below.kp T.b_level_below (sa_cons (sb_var 0 rfl) (sa_cons (sb_var 1 rfl) sa_nil))) sc.nd))
  (sj_cons (sj_exprM (sem_meth0 0 (ok_Cursor_take T) (hr.mono (Nat.le_add_right_of_le (by decide))) T.rc_Cursor T.me_Cursor_take T.b_Cursor_take))
  (sj_cons (sj_asgM (sem_call 0 ih.c0 hr rfl T.m_take_expression T.F_take_expression.kp T.b_take_expression (sa_cons (SE.sb (SB.se (sb_var 3 rfl))) sa_nil)) (sg_tup rfl (sgs_cons (sg_name 4 sc.nd) (sgs_cons (sg_name 5 sc.nd) sgs_nil))))
  (sj_cons (sj_exprM (sem_meth 0 (ok_Cursor_take_only T) (hr.mono (Nat.le_add_right_of_le (by decide))) T.rc_Cursor T.me_Cursor_take_only T.b_Cursor_take_only (sa_cons (SE.sb se_str) sa_nil)))
  (sj_one (sj_ret (se_tup (sa_cons (SE.sb (SB.se (sb_var 4 rfl))) (sa_cons (SE.sb (SB.se (sb_var 5 rfl))) sa_nil))) rfl (by decide)))))))
  (SSJ.sub (Γ' := [some 1, some 0, some 0, none, none, none]) sj_nil rfl))
  (sj_cons (sj_if (st_inGS T.g_MINIMUM_AND_MAXIMUM rfl (sb_var 2 rfl)) (sj_one (sj_retM (sem_call 0 ih.c10 hr rfl T.m_take_pair T.F_take_pair.kp T.b_take_pair (sa_cons (SE.sb (SB.se (sb_var 1 rfl))) sa_nil))))
  (SSJ.sub (Γ' := [some 1, some 0, some 0, none, none, none]) sj_nil rfl))
  (sj_one (sj_retM (sem_tup (sam_here (sem_call 0 (ok_take_leaf T) (hr.mono (Nat.le_add_right_of_le (by decide))) rfl T.m_take_leaf T.F_take_leaf.kp T.b_take_leaf sa_nil) (sa_cons (SE.sb se_int) sa_nil)))))))),
      c10 := by
        have sc := sc_take_pair
        exact fn_pureS (W := []) (Γ' := [some 1]) T.F_take_pair sc_take_pair rfl rfl rfl fun cdv A outer s H E hr =>
          (sj_cons (sj_of (ss_set 2 (se_lend (ok_level_below T) (hr.mono (Nat.le_add_right_of_le (by decide))) rfl T.m_level_below T.F_level_below.kp T.b_level_below (sa_cons (sb_var 0 rfl) (sa_cons (sb_var 1 rfl) sa_nil))) sc.nd))
  (sj_cons (sj_setM 3 (sem_meth0 0 (ok_Cursor_take T) (hr.mono (Nat.le_add_right_of_le (by decide))) T.rc_Cursor T.me_Cursor_take T.b_Cursor_take) sc.nd)
  (sj_cons (sj_exprM (sem_meth 0 (ok_Cursor_take_only T) (hr.mono (Nat.le_add_right_of_le (by decide))) T.rc_Cursor T.me_Cursor_take_only T.b_Cursor_take_only (sa_cons (SE.sb se_str) sa_nil)))
  (sj_cons (sj_asgM (sem_call 0 ih.c0 hr rfl T.m_take_expression T.F_take_expression.kp T.b_take_expression (sa_cons (SE.sb (SB.se (sb_var 2 rfl))) sa_nil)) (sg_tup rfl (sgs_cons (sg_name 4 sc.nd) (sgs_cons (sg_name 5 sc.nd) sgs_nil))))
  (sj_cons (sj_exprM (sem_meth 0 (ok_Cursor_take_only T) (hr.mono (Nat.le_add_right_of_le (by decide))) T.rc_Cursor T.me_Cursor_take_only T.b_Cursor_take_only (sa_cons (SE.sb se_str) sa_nil)))
  (sj_cons (sj_asgM (sem_call 0 ih.c0 hr rfl T.m_take_expression T.F_take_expression.kp T.b_take_expression (sa_cons (SE.sb (SB.se (sb_var 2 rfl))) sa_nil)) (sg_tup rfl (sgs_cons (sg_name 6 sc.nd) (sgs_cons (sg_name 7 sc.nd) sgs_nil))))
  (sj_cons (sj_exprM (sem_meth 0 (ok_Cursor_take_only T) (hr.mono (Nat.le_add_right_of_le (by decide))) T.rc_Cursor T.me_Cursor_take_only T.b_Cursor_take_only (sa_cons (SE.sb se_str) sa_nil)))
  (sj_one (sj_ret (se_tup (sa_cons (SE.sb (se_tup (sa_cons (SE.sb (se_ixGS T.g_MINIMUM_AND_MAXIMUM rfl (sb_var 3 rfl))) (sa_cons (SE.sb (SB.se (sb_var 4 rfl))) (sa_cons (SE.sb (SB.se (sb_var 6 rfl))) sa_nil))))) (sa_cons (SE.sb (se_add (SE.sb se_int) (SE.sb (se_max2 rfl rfl T.z_max (sa_cons (sb_var 5 rfl) (sa_cons (sb_var 7 rfl) sa_nil)))))) sa_nil))) rfl (by decide)))))))))),
      c11 := by
        have sc := sc_take_joined
        exact fn_pureSF (Γ' := [some 1]) T.F_take_joined sc_take_joined rfl (by decide) rfl fun cdv A outer s H E hr =>
          (sj_cons (sj_asgM (sem_callL 0 (q := 3) ih.c2 hr T.F_take_union.kp T.b_take_union (sa_cons (SE.sb (SB.se (sb_var 1 rfl))) sa_nil) rfl (List.mem_cons_self)) (sg_tup rfl (sgs_cons (sg_name 4 sc.nd) (sgs_cons (sg_name 5 sc.nd) sgs_nil))))
  (sj_cons (sj_while (Γ' := [some 1, some 0, some 0, none, some 0, some 0, none, none, none]) [some 1, some 0, some 0, none, some 0, some 0, none, none, none] PySem.PassesOwn.never rfl (st_in (hu65 hr) (SE.sb (se_mthL0 (ok_Cursor_word_here T) (hr.mono (Nat.le_add_right_of_le (by decide))) T.rc_Cursor T.me_Cursor_word_here T.b_Cursor_word_here (sb_var 0 rfl))) (sb_var 2 rfl))
  (SSJ.sub (Γ' := [some 1, some 0, some 0, none, some 0, some 0, none, none, none]) (sj_cons (sj_setM 6 (sem_meth0 0 (ok_Cursor_take T) (hr.mono (Nat.le_add_right_of_le (by decide))) T.rc_Cursor T.me_Cursor_take T.b_Cursor_take) sc.nd)
  (sj_cons (sj_asgM (sem_callL 0 (q := 3) ih.c2 hr T.F_take_union.kp T.b_take_union (sa_cons (SE.sb (SB.se (sb_var 1 rfl))) sa_nil) rfl (List.mem_cons_self)) (sg_tup rfl (sgs_cons (sg_name 7 sc.nd) (sgs_cons (sg_name 8 sc.nd) sgs_nil))))
  (sj_cons (sj_of (ss_set 4 (se_if (st_inGl T.g_CALCULATIONS rfl (sb_var 6 rfl)) (SE.sub (Γ' := [some 1, some 0, some 0, none, some 0, some 0, some 0, some 0, some 0]) (se_tup (sa_cons (SE.sb se_str) (sa_cons (SE.sb (SB.se (sb_var 6 rfl))) (sa_cons (SE.sb (SB.se (sb_var 4 rfl))) (sa_cons (SE.sb (SB.se (sb_var 7 rfl))) sa_nil))))) rfl (Nat.le_refl _)) (SE.sub (Γ' := [some 1, some 0, some 0, none, some 0, some 0, some 0, some 0, some 0]) (se_tup (sa_cons (SE.sb (SB.se (sb_var 6 rfl))) (sa_cons (SE.sb (SB.se (sb_var 4 rfl))) (sa_cons (SE.sb (SB.se (sb_var 7 rfl))) sa_nil)))) rfl (Nat.le_refl _))) sc.nd))
  (sj_one (sj_of (ss_set 5 (se_add (SE.sb se_int) (SE.sb (se_max2 rfl rfl T.z_max (sa_cons (sb_var 5 rfl) (sa_cons (sb_var 8 rfl) sa_nil))))) sc.nd)))))) rfl) rfl)
  (sj_one (sj_ret (se_tup (sa_cons (SE.sb (SB.se (sb_var 4 rfl))) (sa_cons (SE.sb (SB.se (sb_var 5 rfl))) sa_nil))) rfl (by decide))))),
      c12 := by
        have sc := sc_take_joined
        exact fn_pureSF (Γ' := [some 1]) T.F_take_joined sc_take_joined rfl (by decide) rfl fun cdv A outer s H E hr =>
          (sj_cons (sj_asgM (sem_callL 0 (q := 3) ih.c3 hr T.F_take_past.kp T.b_take_past (sa_cons (SE.sb (SB.se (sb_var 1 rfl))) sa_nil) rfl (List.mem_cons_self)) (sg_tup rfl (sgs_cons (sg_name 4 sc.nd) (sgs_cons (sg_name 5 sc.nd) sgs_nil))))
  (sj_cons (sj_while (Γ' := [some 1, some 0, some 0, none, some 0, some 0, none, none, none]) [some 1, some 0, some 0, none, some 0, some 0, none, none, none] PySem.PassesOwn.never rfl (st_in (hu65 hr) (SE.sb (se_mthL0 (ok_Cursor_word_here T) (hr.mono (Nat.le_add_right_of_le (by decide))) T.rc_Cursor T.me_Cursor_word_here T.b_Cursor_word_here (sb_var 0 rfl))) (sb_var 2 rfl))
  (SSJ.sub (Γ' := [some 1, some 0, some 0, none, some 0, some 0, none, none, none]) (sj_cons (sj_setM 6 (sem_meth0 0 (ok_Cursor_take T) (hr.mono (Nat.le_add_right_of_le (by decide))) T.rc_Cursor T.me_Cursor_take T.b_Cursor_take) sc.nd)
  (sj_cons (sj_asgM (sem_callL 0 (q := 3) ih.c3 hr T.F_take_past.kp T.b_take_past (sa_cons (SE.sb (SB.se (sb_var 1 rfl))) sa_nil) rfl (List.mem_cons_self)) (sg_tup rfl (sgs_cons (sg_name 7 sc.nd) (sgs_cons (sg_name 8 sc.nd) sgs_nil))))
  (sj_cons (sj_of (ss_set 4 (se_if (st_inGl T.g_CALCULATIONS rfl (sb_var 6 rfl)) (SE.sub (Γ' := [some 1, some 0, some 0, none, some 0, some 0, some 0, some 0, some 0]) (se_tup (sa_cons (SE.sb se_str) (sa_cons (SE.sb (SB.se (sb_var 6 rfl))) (sa_cons (SE.sb (SB.se (sb_var 4 rfl))) (sa_cons (SE.sb (SB.se (sb_var 7 rfl))) sa_nil))))) rfl (Nat.le_refl _)) (SE.sub (Γ' := [some 1, some 0, some 0, none, some 0, some 0, some 0, some 0, some 0]) (se_tup (sa_cons (SE.sb (SB.se (sb_var 6 rfl))) (sa_cons (SE.sb (SB.se (sb_var 4 rfl))) (sa_cons (SE.sb (SB.se (sb_var 7 rfl))) sa_nil)))) rfl (Nat.le_refl _))) sc.nd))
  (sj_one (sj_of (ss_set 5 (se_add (SE.sb se_int) (SE.sb (se_max2 rfl rfl T.z_max (sa_cons (sb_var 5 rfl) (sa_cons (sb_var 8 rfl) sa_nil))))) sc.nd)))))) rfl) rfl)
  (sj_one (sj_ret (se_tup (sa_cons (SE.sb (SB.se (sb_var 4 rfl))) (sa_cons (SE.sb (SB.se (sb_var 5 rfl))) sa_nil))) rfl (by decide))))),
      c13 := by
        have sc := sc_take_joined
        exact fn_pureSF (Γ' := [some 1]) T.F_take_joined sc_take_joined rfl (by decide) rfl fun cdv A outer s H E hr =>
          (sj_cons (sj_asgM (sem_callL 0 (q := 3) ih.c4 hr T.F_take_prefix.kp T.b_take_prefix (sa_cons (SE.sb (SB.se (sb_var 1 rfl))) sa_nil) rfl (List.mem_cons_self)) (sg_tup rfl (sgs_cons (sg_name 4 sc.nd) (sgs_cons (sg_name 5 sc.nd) sgs_nil))))
  (sj_cons (sj_while (Γ' := [some 1, some 0, some 0, none, some 0, some 0, none, none, none]) [some 1, some 0, some 0, none, some 0, some 0, none, none, none] PySem.PassesOwn.never rfl (st_in (hu65 hr) (SE.sb (se_mthL0 (ok_Cursor_word_here T) (hr.mono (Nat.le_add_right_of_le (by decide))) T.rc_Cursor T.me_Cursor_word_here T.b_Cursor_word_here (sb_var 0 rfl))) (sb_var 2 rfl))
  (SSJ.sub (Γ' := [some 1, some 0, some 0, none, some 0, some 0, none, none, none]) (sj_cons (sj_setM 6 (sem_meth0 0 (ok_Cursor_take T) (hr.mono (Nat.le_add_right_of_le (by decide))) T.rc_Cursor T.me_Cursor_take T.b_Cursor_take) sc.nd)
  (sj_cons (sj_asgM (sem_callL 0 (q := 3) ih.c4 hr T.F_take_prefix.kp T.b_take_prefix (sa_cons (SE.sb (SB.se (sb_var 1 rfl))) sa_nil) rfl (List.mem_cons_self)) (sg_tup rfl (sgs_cons (sg_name 7 sc.nd) (sgs_cons (sg_name 8 sc.nd) sgs_nil))))
  (sj_cons (sj_of (ss_set 4 (se_if (st_inGl T.g_CALCULATIONS rfl (sb_var 6 rfl)) (SE.sub (Γ' := [some 1, some 0, some 0, none, some 0, some 0, some 0, some 0, some 0]) (se_tup (sa_cons (SE.sb se_str) (sa_cons (SE.sb (SB.se (sb_var 6 rfl))) (sa_cons (SE.sb (SB.se (sb_var 4 rfl))) (sa_cons (SE.sb (SB.se (sb_var 7 rfl))) sa_nil))))) rfl (Nat.le_refl _)) (SE.sub (Γ' := [some 1, some 0, some 0, none, some 0, some 0, some 0, some 0, some 0]) (se_tup (sa_cons (SE.sb (SB.se (sb_var 6 rfl))) (sa_cons (SE.sb (SB.se (sb_var 4 rfl))) (sa_cons (SE.sb (SB.se (sb_var 7 rfl))) sa_nil)))) rfl (Nat.le_refl _))) sc.nd))
  (sj_one (sj_of (ss_set 5 (se_add (SE.sb se_int) (SE.sb (se_max2 rfl rfl T.z_max (sa_cons (sb_var 5 rfl) (sa_cons (sb_var 8 rfl) sa_nil))))) sc.nd)))))) rfl) rfl)
  (sj_one (sj_ret (se_tup (sa_cons (SE.sb (SB.se (sb_var 4 rfl))) (sa_cons (SE.sb (SB.se (sb_var 5 rfl))) sa_nil))) rfl (by decide))))),
      c14 := by
        have sc := sc_take_joined
        exact fn_pureSF (Γ' := [some 1]) T.F_take_joined sc_take_joined rfl (by decide) rfl fun cdv A outer s H E hr =>
          (sj_cons (sj_asgM (sem_callL 0 (q := 3) ih.c7 hr T.F_take_product.kp T.b_take_product (sa_cons (SE.sb (SB.se (sb_var 1 rfl))) sa_nil) rfl (List.mem_cons_self)) (sg_tup rfl (sgs_cons (sg_name 4 sc.nd) (sgs_cons (sg_name 5 sc.nd) sgs_nil))))
  (sj_cons (sj_while (Γ' := [some 1, some 0, some 0, none, some 0, some 0, none, none, none]) [some 1, some 0, some 0, none, some 0, some 0, none, none, none] PySem.PassesOwn.never rfl (st_in (hu65 hr) (SE.sb (se_mthL0 (ok_Cursor_word_here T) (hr.mono (Nat.le_add_right_of_le (by decide))) T.rc_Cursor T.me_Cursor_word_here T.b_Cursor_word_here (sb_var 0 rfl))) (sb_var 2 rfl))
  (SSJ.sub (Γ' := [some 1, some 0, some 0, none, some 0, some 0, none, none, none]) (sj_cons (sj_setM 6 (sem_meth0 0 (ok_Cursor_take T) (hr.mono (Nat.le_add_right_of_le (by decide))) T.rc_Cursor T.me_Cursor_take T.b_Cursor_take) sc.nd)
  (sj_cons (sj_asgM (sem_callL 0 (q := 3) ih.c7 hr T.F_take_product.kp T.b_take_product (sa_cons (SE.sb (SB.se (sb_var 1 rfl))) sa_nil) rfl (List.mem_cons_self)) (sg_tup rfl (sgs_cons (sg_name 7 sc.nd) (sgs_cons (sg_name 8 sc.nd) sgs_nil))))
  (sj_cons (sj_of (ss_set 4 (se_if (st_inGl T.g_CALCULATIONS rfl (sb_var 6 rfl)) (SE.sub (Γ' := [some 1, some 0, some 0, none, some 0, some 0, some 0, some 0, some 0]) (se_tup (sa_cons (SE.sb se_str) (sa_cons (SE.sb (SB.se (sb_var 6 rfl))) (sa_cons (SE.sb (SB.se (sb_var 4 rfl))) (sa_cons (SE.sb (SB.se (sb_var 7 rfl))) sa_nil))))) rfl (Nat.le_refl _)) (SE.sub (Γ' := [some 1, some 0, some 0, none, some 0, some 0, some 0, some 0, some 0]) (se_tup (sa_cons (SE.sb (SB.se (sb_var 6 rfl))) (sa_cons (SE.sb (SB.se (sb_var 4 rfl))) (sa_cons (SE.sb (SB.se (sb_var 7 rfl))) sa_nil)))) rfl (Nat.le_refl _))) sc.nd))
  (sj_one (sj_of (ss_set 5 (se_add (SE.sb se_int) (SE.sb (se_max2 rfl rfl T.z_max (sa_cons (sb_var 5 rfl) (sa_cons (sb_var 8 rfl) sa_nil))))) sc.nd)))))) rfl) rfl)
  (sj_one (sj_ret (se_tup (sa_cons (SE.sb (SB.se (sb_var 4 rfl))) (sa_cons (SE.sb (SB.se (sb_var 5 rfl))) sa_nil))) rfl (by decide))))),
      c15 := by
        have sc := sc_take_joined
        exact fn_pureSF (Γ' := [some 1]) T.F_take_joined sc_take_joined rfl (by decide) rfl fun cdv A outer s H E hr =>
          (sj_cons (sj_asgM (sem_callL 0 (q := 3) ih.c8 hr T.F_take_negation.kp T.b_take_negation (sa_cons (SE.sb (SB.se (sb_var 1 rfl))) sa_nil) rfl (List.mem_cons_self)) (sg_tup rfl (sgs_cons (sg_name 4 sc.nd) (sgs_cons (sg_name 5 sc.nd) sgs_nil))))
  (sj_cons (sj_while (Γ' := [some 1, some 0, some 0, none, some 0, some 0, none, none, none]) [some 1, some 0, some 0, none, some 0, some 0, none, none, none] PySem.PassesOwn.never rfl (st_in (hu65 hr) (SE.sb (se_mthL0 (ok_Cursor_word_here T) (hr.mono (Nat.le_add_right_of_le (by decide))) T.rc_Cursor T.me_Cursor_word_here T.b_Cursor_word_here (sb_var 0 rfl))) (sb_var 2 rfl))
  (SSJ.sub (Γ' := [some 1, some 0, some 0, none, some 0, some 0, none, none, none]) (sj_cons (sj_setM 6 (sem_meth0 0 (ok_Cursor_take T) (hr.mono (Nat.le_add_right_of_le (by decide))) T.rc_Cursor T.me_Cursor_take T.b_Cursor_take) sc.nd)
  (sj_cons (sj_asgM (sem_callL 0 (q := 3) ih.c8 hr T.F_take_negation.kp T.b_take_negation (sa_cons (SE.sb (SB.se (sb_var 1 rfl))) sa_nil) rfl (List.mem_cons_self)) (sg_tup rfl (sgs_cons (sg_name 7 sc.nd) (sgs_cons (sg_name 8 sc.nd) sgs_nil))))
  (sj_cons (sj_of (ss_set 4 (se_if (st_inGl T.g_CALCULATIONS rfl (sb_var 6 rfl)) (SE.sub (Γ' := [some 1, some 0, some 0, none, some 0, some 0, some 0, some 0, some 0]) (se_tup (sa_cons (SE.sb se_str) (sa_cons (SE.sb (SB.se (sb_var 6 rfl))) (sa_cons (SE.sb (SB.se (sb_var 4 rfl))) (sa_cons (SE.sb (SB.se (sb_var 7 rfl))) sa_nil))))) rfl (Nat.le_refl _)) (SE.sub (Γ' := [some 1, some 0, some 0, none, some 0, some 0, some 0, some 0, some 0]) (se_tup (sa_cons (SE.sb (SB.se (sb_var 6 rfl))) (sa_cons (SE.sb (SB.se (sb_var 4 rfl))) (sa_cons (SE.sb (SB.se (sb_var 7 rfl))) sa_nil)))) rfl (Nat.le_refl _))) sc.nd))
  (sj_one (sj_of (ss_set 5 (se_add (SE.sb se_int) (SE.sb (se_max2 rfl rfl T.z_max (sa_cons (sb_var 5 rfl) (sa_cons (sb_var 8 rfl) sa_nil))))) sc.nd)))))) rfl) rfl)
  (sj_one (sj_ret (se_tup (sa_cons (SE.sb (SB.se (sb_var 4 rfl))) (sa_cons (SE.sb (SB.se (sb_var 5 rfl))) sa_nil))) rfl (by decide))))) }
def B_take_whole [PC_Cursor] : SF :=
  (sSeq (sIf (tT (eV 1)) (sAsgM 0 (gTpl (gMore (gN 2) (gMore (gN 3) gEmp)) 2) (eLS 0 (RR 60 0) (aC (eC (.int 0)) aN)))
  (sAsgM 0 (gTpl (gMore (gN 2) (gMore (gN 3) gEmp)) 2) (eLS 0 (RR 60 6) (aC (eC (.int 0)) aN))))
  (sSeq (sIf (tV (e2 pGt (eV 3) (eC (.int 30)))) sNever
  sSkip)
  (sRetJ 0 (eV 2))))
def F_take_whole [PC_Cursor] : List D → Option D := runS 0 1 4 B_take_whole
theorem sc_take_whole : FnScope ["cursor", "whole", "tree", "height"] ["cursor", "whole"] (defScope (topS 24)) := ⟨rfl, rfl, rfl, by decide +kernel, rfl, by decide +kernel, by decide +kernel⟩
theorem ok_take_whole [PC_Cursor] (T : Txt w K mg) : FnOk P w K mg base CX0 65 T.a_take_whole T.d_take_whole ["cursor", "whole"] (PureS K 1 1 0 F_take_whole) := by
  have sc := sc_take_whole
  exact fn_pureS (W := []) (Γ' := [some 1]) T.F_take_whole sc_take_whole rfl rfl rfl fun cdv A outer s H E hr =>
    (sj_cons (sj_if (st_truth (sb_var 1 rfl)) (SSJ.sub (Γ' := [some 1, some 0, some 0, some 0]) (sj_one (sj_asgM (sem_call 0 (rec_all T 60).c0 (hr.mono (by decide)) rfl T.m_take_expression T.F_take_expression.kp T.b_take_expression (sa_cons (SE.sb se_int) sa_nil)) (sg_tup rfl (sgs_cons (sg_name 2 sc.nd) (sgs_cons (sg_name 3 sc.nd) sgs_nil))))) rfl)
  (SSJ.sub (Γ' := [some 1, some 0, some 0, some 0]) (sj_one (sj_asgM (sem_call 0 (rec_all T 60).c6 (hr.mono (by decide)) rfl T.m_take_sum T.F_take_sum.kp T.b_take_sum (sa_cons (SE.sb se_int) sa_nil)) (sg_tup rfl (sgs_cons (sg_name 2 sc.nd) (sgs_cons (sg_name 3 sc.nd) sgs_nil))))) rfl))
  (sj_cons (sj_if (st_gt (sb_var 3 rfl) (SE.sb (se_glI T.c_HIGHEST rfl))) (sj_one sj_never)
  (SSJ.sub (Γ' := [some 1, some 0, some 0, some 0]) sj_nil rfl))
  (sj_one (sj_ret (SB.se (sb_var 2 rfl)) rfl (by decide)))))
def B_parse_expression [PC_Cursor] : SF :=
  (sSeq (sSet 2 (eL F_Cursor___init__ (aC (eV 0) aN)))
  (sSeq (sSetMS 2 3 (eLS 2 F_take_whole (aC (eV 1) aN)))
  (sSeq (sIf (tV (e2 pNe (eMeth PC_Cursor.C "kind_here" (flatF F_Cursor_kind_here) (eV 2) aN) (eC (.str (Str.ofString "end"))))) (fun _ => none)
  sSkip)
  (sRet (eV 3)))))
def F_parse_expression [PC_Cursor] : List D → Option D := runF 0 2 4 B_parse_expression
theorem sc_parse_expression : FnScope ["text", "whole", "cursor", "tree"] ["text", "whole"] (defScope (topS 41)) := ⟨rfl, rfl, rfl, by decide +kernel, rfl, by decide +kernel, by decide +kernel⟩
theorem ok_parse_expression [PC_Cursor] (T : Txt w K mg) : FnOk P w K mg base CX0 66 T.a_parse_expression T.d_parse_expression ["text", "whole"] (Pure K 2 0 F_parse_expression) := by
  have sc := sc_parse_expression
  exact fn_pure (Γ' := []) T.F_parse_expression sc_parse_expression rfl fun cdv A outer s H E hr =>
    (ss_cons (ss_set 2 (se_make T.mk_Cursor (ok_Cursor___init__ T) (hr.mono (by decide)) rfl T.m_Cursor T.b_Cursor___init__ (sa_cons (SE.sb (SB.se (sb_var 0 rfl))) sa_nil)) sc.nd)
  (ss_cons (ss_setM 2 3 (sem_callK 2 (ok_take_whole T) (hr.mono (by decide)) rfl T.m_take_whole T.F_take_whole.kp T.b_take_whole (SE.sb (SB.se (sb_var 1 rfl)))) sc.nd)
  (ss_cons (ss_if (st_ne (hu64 hr) (SE.sb (se_mthL0 (ok_Cursor_kind_here T) (hr.mono (by decide)) T.rc_Cursor T.me_Cursor_kind_here T.b_Cursor_kind_here (sb_var 2 rfl))) (SE.sb se_str)) (ss_one ss_never)
  (SSs.sub (Γ' := [some 0, some 0, some 1, some 0]) ss_nil rfl))
  (ss_one (ss_ret (SB.se (sb_var 3 rfl)) (by decide))))))
def B_law [PC_Cursor] : SF :=
  (sSeq (sSet 1 (eL F__law_row (aC (eV 0) aN)))
  (sSeq (sSet 2 (e1 (replD (Str.ofString "neg") (Str.ofString "-")) (e1 (joinD (Str.ofString " ")) (eV 1))))
  (sRet (eL F__law_alike (aC (eL F_parse_expression (aC (eV 2) (aC (eC (.bool true)) aN))) (aC (eL F__law_tree (aC (eV 1) (aC (eC (.int 0)) aN))) aN))))))
def F_law [PC_Cursor] : List D → Option D := runF 0 1 3 B_law
theorem sc_law : FnScope ["script", "words", "text"] ["script"] (defScope (topS 49)) := ⟨rfl, rfl, rfl, by decide +kernel, rfl, by decide +kernel, by decide +kernel⟩
theorem ok_law [PC_Cursor] (T : Txt w K mg) : FnOk P w K mg base CX0 67 T.a_law T.d_law ["script"] (Pure K 1 0 F_law) := by
  have sc := sc_law
  exact fn_pure (Γ' := []) T.F_law sc_law rfl fun cdv A outer s H E hr =>
    (ss_cons (ss_set 1 (se_call (ok__law_row T) (hr.mono (by decide)) rfl T.m__law_row T.F__law_row.kp T.b__law_row (sa_cons (SE.sb (SB.se (sb_var 0 rfl))) sa_nil)) sc.nd)
  (ss_cons (ss_set 2 (se_joinRepl (sb_var 1 rfl)) sc.nd)
  (ss_one (ss_ret (se_call (ok__law_alike T) (hr.mono (by decide)) rfl T.m__law_alike T.F__law_alike.kp T.b__law_alike (sa_cons (SE.sb (se_callK (ok_parse_expression T) (hr.mono (by decide)) rfl T.m_parse_expression T.F_parse_expression.kp T.b_parse_expression (SE.sb (SB.se (sb_var 2 rfl))) (SE.sb se_bl))) (sa_cons (SE.sb (SE.sub (m := 0) (se_call (ok__law_tree T) (hr.mono (by decide)) rfl T.m__law_tree T.F__law_tree.kp T.b__law_tree (sa_cons (SE.sb (se_fz 1 rfl)) (sa_cons (SE.sb se_int) sa_nil))) (leC_refl _) (Nat.zero_le _))) sa_nil))) (by decide)))))
end
theorem all_mk {l : PySem.W.OpenLaw} {w : World} {K : PySem.W.Frag} {h : Heap} {mg : Str → Option Value} {fa : Addr} (X : K.In h) (G : h.Ns mainGlobals mg) (hfa : mg "law" = some (.ref fa))
    (LT : ∀ [PC_Cursor] (ns : List Int), ns.length ≤ 63 → F_law [.list (ns.map .int)] = some (.bool true))
    {f0 : Addr} {od0 an0 : Option Addr} {sl0 : Array (Option Value)} {oc0 kV0 dc0 pm0 cd0 ct0 : Value}
    (a0 : PySem.W.nsIn K mainGlobals "words_of" = some (some (.ref f0))) (l0 : K.lookup f0 = some ⟨oc0, od0, .func (PySem.W.fnOf "words_of" "words_of" (defArgs (topS 10)) (defBody (topS 10)) (defScope (topS 10)) .none kV0 dc0 pm0 an0 cd0 ct0), sl0⟩) (c0 : PySem.W.codeIn K cd0 "words_of" = true) (k0 : PySem.W.keepIn K (.ref f0) = true)
    {f1 : Addr} {od1 an1 : Option Addr} {sl1 : Array (Option Value)} {oc1 kV1 dc1 pm1 cd1 ct1 : Value}
    (a1 : PySem.W.nsIn K mainGlobals "find_piece" = some (some (.ref f1))) (l1 : K.lookup f1 = some ⟨oc1, od1, .func (PySem.W.fnOf "find_piece" "find_piece" (defArgs (topS 11)) (defBody (topS 11)) (defScope (topS 11)) .none kV1 dc1 pm1 an1 cd1 ct1), sl1⟩) (c1 : PySem.W.codeIn K cd1 "find_piece" = true) (k1 : PySem.W.keepIn K (.ref f1) = true)
    {f2 : Addr} {od2 an2 : Option Addr} {sl2 : Array (Option Value)} {oc2 kV2 dc2 pm2 cd2 ct2 : Value}
    (a2 : PySem.W.nsIn K mainGlobals "comment_length" = some (some (.ref f2))) (l2 : K.lookup f2 = some ⟨oc2, od2, .func (PySem.W.fnOf "comment_length" "comment_length" (defArgs (topS 12)) (defBody (topS 12)) (defScope (topS 12)) .none kV2 dc2 pm2 an2 cd2 ct2), sl2⟩) (c2 : PySem.W.codeIn K cd2 "comment_length" = true) (k2 : PySem.W.keepIn K (.ref f2) = true)
    {f3 : Addr} {od3 an3 : Option Addr} {sl3 : Array (Option Value)} {oc3 kV3 dc3 pm3 cd3 ct3 : Value}
    (a3 : PySem.W.nsIn K mainGlobals "length_of" = some (some (.ref f3))) (l3 : K.lookup f3 = some ⟨oc3, od3, .func (PySem.W.fnOf "length_of" "length_of" (defArgs (topS 13)) (defBody (topS 13)) (defScope (topS 13)) .none kV3 dc3 pm3 an3 cd3 ct3), sl3⟩) (c3 : PySem.W.codeIn K cd3 "length_of" = true) (k3 : PySem.W.keepIn K (.ref f3) = true)
    {f4 : Addr} {od4 an4 : Option Addr} {sl4 : Array (Option Value)} {oc4 kV4 dc4 pm4 cd4 ct4 : Value}
    (a4 : PySem.W.nsIn K mainGlobals "take_whole" = some (some (.ref f4))) (l4 : K.lookup f4 = some ⟨oc4, od4, .func (PySem.W.fnOf "take_whole" "take_whole" (defArgs (topS 24)) (defBody (topS 24)) (defScope (topS 24)) .none kV4 dc4 pm4 an4 cd4 ct4), sl4⟩) (c4 : PySem.W.codeIn K cd4 "take_whole" = true) (k4 : PySem.W.keepIn K (.ref f4) = true)
    {f5 : Addr} {od5 an5 : Option Addr} {sl5 : Array (Option Value)} {oc5 kV5 dc5 pm5 cd5 ct5 : Value}
    (a5 : PySem.W.nsIn K mainGlobals "level_below" = some (some (.ref f5))) (l5 : K.lookup f5 = some ⟨oc5, od5, .func (PySem.W.fnOf "level_below" "level_below" (defArgs (topS 25)) (defBody (topS 25)) (defScope (topS 25)) .none kV5 dc5 pm5 an5 cd5 ct5), sl5⟩) (c5 : PySem.W.codeIn K cd5 "level_below" = true) (k5 : PySem.W.keepIn K (.ref f5) = true)
    {f6 : Addr} {od6 an6 : Option Addr} {sl6 : Array (Option Value)} {oc6 kV6 dc6 pm6 cd6 ct6 : Value}
    (a6 : PySem.W.nsIn K mainGlobals "take_expression" = some (some (.ref f6))) (l6 : K.lookup f6 = some ⟨oc6, od6, .func (PySem.W.fnOf "take_expression" "take_expression" (defArgs (topS 26)) (defBody (topS 26)) (defScope (topS 26)) .none kV6 dc6 pm6 an6 cd6 ct6), sl6⟩) (c6 : PySem.W.codeIn K cd6 "take_expression" = true) (k6 : PySem.W.keepIn K (.ref f6) = true)
    {f7 : Addr} {od7 an7 : Option Addr} {sl7 : Array (Option Value)} {oc7 kV7 dc7 pm7 cd7 ct7 : Value}
    (a7 : PySem.W.nsIn K mainGlobals "take_choice" = some (some (.ref f7))) (l7 : K.lookup f7 = some ⟨oc7, od7, .func (PySem.W.fnOf "take_choice" "take_choice" (defArgs (topS 27)) (defBody (topS 27)) (defScope (topS 27)) .none kV7 dc7 pm7 an7 cd7 ct7), sl7⟩) (c7 : PySem.W.codeIn K cd7 "take_choice" = true) (k7 : PySem.W.keepIn K (.ref f7) = true)
    {f8 : Addr} {od8 an8 : Option Addr} {sl8 : Array (Option Value)} {oc8 kV8 dc8 pm8 cd8 ct8 : Value}
    (a8 : PySem.W.nsIn K mainGlobals "take_union" = some (some (.ref f8))) (l8 : K.lookup f8 = some ⟨oc8, od8, .func (PySem.W.fnOf "take_union" "take_union" (defArgs (topS 28)) (defBody (topS 28)) (defScope (topS 28)) .none kV8 dc8 pm8 an8 cd8 ct8), sl8⟩) (c8 : PySem.W.codeIn K cd8 "take_union" = true) (k8 : PySem.W.keepIn K (.ref f8) = true)
    {f9 : Addr} {od9 an9 : Option Addr} {sl9 : Array (Option Value)} {oc9 kV9 dc9 pm9 cd9 ct9 : Value}
    (a9 : PySem.W.nsIn K mainGlobals "take_past" = some (some (.ref f9))) (l9 : K.lookup f9 = some ⟨oc9, od9, .func (PySem.W.fnOf "take_past" "take_past" (defArgs (topS 29)) (defBody (topS 29)) (defScope (topS 29)) .none kV9 dc9 pm9 an9 cd9 ct9), sl9⟩) (c9 : PySem.W.codeIn K cd9 "take_past" = true) (k9 : PySem.W.keepIn K (.ref f9) = true)
    {f10 : Addr} {od10 an10 : Option Addr} {sl10 : Array (Option Value)} {oc10 kV10 dc10 pm10 cd10 ct10 : Value}
    (a10 : PySem.W.nsIn K mainGlobals "take_joined" = some (some (.ref f10))) (l10 : K.lookup f10 = some ⟨oc10, od10, .func (PySem.W.fnOf "take_joined" "take_joined" (defArgs (topS 30)) (defBody (topS 30)) (defScope (topS 30)) .none kV10 dc10 pm10 an10 cd10 ct10), sl10⟩) (c10 : PySem.W.codeIn K cd10 "take_joined" = true) (k10 : PySem.W.keepIn K (.ref f10) = true)
    {f11 : Addr} {od11 an11 : Option Addr} {sl11 : Array (Option Value)} {oc11 kV11 dc11 pm11 cd11 ct11 : Value}
    (a11 : PySem.W.nsIn K mainGlobals "take_prefix" = some (some (.ref f11))) (l11 : K.lookup f11 = some ⟨oc11, od11, .func (PySem.W.fnOf "take_prefix" "take_prefix" (defArgs (topS 31)) (defBody (topS 31)) (defScope (topS 31)) .none kV11 dc11 pm11 an11 cd11 ct11), sl11⟩) (c11 : PySem.W.codeIn K cd11 "take_prefix" = true) (k11 : PySem.W.keepIn K (.ref f11) = true)
    {f12 : Addr} {od12 an12 : Option Addr} {sl12 : Array (Option Value)} {oc12 kV12 dc12 pm12 cd12 ct12 : Value}
    (a12 : PySem.W.nsIn K mainGlobals "take_limit" = some (some (.ref f12))) (l12 : K.lookup f12 = some ⟨oc12, od12, .func (PySem.W.fnOf "take_limit" "take_limit" (defArgs (topS 32)) (defBody (topS 32)) (defScope (topS 32)) .none kV12 dc12 pm12 an12 cd12 ct12), sl12⟩) (c12 : PySem.W.codeIn K cd12 "take_limit" = true) (k12 : PySem.W.keepIn K (.ref f12) = true)
    {f13 : Addr} {od13 an13 : Option Addr} {sl13 : Array (Option Value)} {oc13 kV13 dc13 pm13 cd13 ct13 : Value}
    (a13 : PySem.W.nsIn K mainGlobals "take_comparison" = some (some (.ref f13))) (l13 : K.lookup f13 = some ⟨oc13, od13, .func (PySem.W.fnOf "take_comparison" "take_comparison" (defArgs (topS 33)) (defBody (topS 33)) (defScope (topS 33)) .none kV13 dc13 pm13 an13 cd13 ct13), sl13⟩) (c13 : PySem.W.codeIn K cd13 "take_comparison" = true) (k13 : PySem.W.keepIn K (.ref f13) = true)
    {f14 : Addr} {od14 an14 : Option Addr} {sl14 : Array (Option Value)} {oc14 kV14 dc14 pm14 cd14 ct14 : Value}
    (a14 : PySem.W.nsIn K mainGlobals "take_sum" = some (some (.ref f14))) (l14 : K.lookup f14 = some ⟨oc14, od14, .func (PySem.W.fnOf "take_sum" "take_sum" (defArgs (topS 34)) (defBody (topS 34)) (defScope (topS 34)) .none kV14 dc14 pm14 an14 cd14 ct14), sl14⟩) (c14 : PySem.W.codeIn K cd14 "take_sum" = true) (k14 : PySem.W.keepIn K (.ref f14) = true)
    {f15 : Addr} {od15 an15 : Option Addr} {sl15 : Array (Option Value)} {oc15 kV15 dc15 pm15 cd15 ct15 : Value}
    (a15 : PySem.W.nsIn K mainGlobals "take_product" = some (some (.ref f15))) (l15 : K.lookup f15 = some ⟨oc15, od15, .func (PySem.W.fnOf "take_product" "take_product" (defArgs (topS 35)) (defBody (topS 35)) (defScope (topS 35)) .none kV15 dc15 pm15 an15 cd15 ct15), sl15⟩) (c15 : PySem.W.codeIn K cd15 "take_product" = true) (k15 : PySem.W.keepIn K (.ref f15) = true)
    {f16 : Addr} {od16 an16 : Option Addr} {sl16 : Array (Option Value)} {oc16 kV16 dc16 pm16 cd16 ct16 : Value}
    (a16 : PySem.W.nsIn K mainGlobals "take_negation" = some (some (.ref f16))) (l16 : K.lookup f16 = some ⟨oc16, od16, .func (PySem.W.fnOf "take_negation" "take_negation" (defArgs (topS 36)) (defBody (topS 36)) (defScope (topS 36)) .none kV16 dc16 pm16 an16 cd16 ct16), sl16⟩) (c16 : PySem.W.codeIn K cd16 "take_negation" = true) (k16 : PySem.W.keepIn K (.ref f16) = true)
    {f17 : Addr} {od17 an17 : Option Addr} {sl17 : Array (Option Value)} {oc17 kV17 dc17 pm17 cd17 ct17 : Value}
    (a17 : PySem.W.nsIn K mainGlobals "take_atom" = some (some (.ref f17))) (l17 : K.lookup f17 = some ⟨oc17, od17, .func (PySem.W.fnOf "take_atom" "take_atom" (defArgs (topS 37)) (defBody (topS 37)) (defScope (topS 37)) .none kV17 dc17 pm17 an17 cd17 ct17), sl17⟩) (c17 : PySem.W.codeIn K cd17 "take_atom" = true) (k17 : PySem.W.keepIn K (.ref f17) = true)
    {f18 : Addr} {od18 an18 : Option Addr} {sl18 : Array (Option Value)} {oc18 kV18 dc18 pm18 cd18 ct18 : Value}
    (a18 : PySem.W.nsIn K mainGlobals "take_pair" = some (some (.ref f18))) (l18 : K.lookup f18 = some ⟨oc18, od18, .func (PySem.W.fnOf "take_pair" "take_pair" (defArgs (topS 38)) (defBody (topS 38)) (defScope (topS 38)) .none kV18 dc18 pm18 an18 cd18 ct18), sl18⟩) (c18 : PySem.W.codeIn K cd18 "take_pair" = true) (k18 : PySem.W.keepIn K (.ref f18) = true)
    {f19 : Addr} {od19 an19 : Option Addr} {sl19 : Array (Option Value)} {oc19 kV19 dc19 pm19 cd19 ct19 : Value}
    (a19 : PySem.W.nsIn K mainGlobals "take_leaf" = some (some (.ref f19))) (l19 : K.lookup f19 = some ⟨oc19, od19, .func (PySem.W.fnOf "take_leaf" "take_leaf" (defArgs (topS 39)) (defBody (topS 39)) (defScope (topS 39)) .none kV19 dc19 pm19 an19 cd19 ct19), sl19⟩) (c19 : PySem.W.codeIn K cd19 "take_leaf" = true) (k19 : PySem.W.keepIn K (.ref f19) = true)
    {f20 : Addr} {od20 an20 : Option Addr} {sl20 : Array (Option Value)} {oc20 kV20 dc20 pm20 cd20 ct20 : Value}
    (a20 : PySem.W.nsIn K mainGlobals "parse_expression" = some (some (.ref f20))) (l20 : K.lookup f20 = some ⟨oc20, od20, .func (PySem.W.fnOf "parse_expression" "parse_expression" (defArgs (topS 41)) (defBody (topS 41)) (defScope (topS 41)) .none kV20 dc20 pm20 an20 cd20 ct20), sl20⟩) (c20 : PySem.W.codeIn K cd20 "parse_expression" = true) (k20 : PySem.W.keepIn K (.ref f20) = true)
    {f21 : Addr} {od21 an21 : Option Addr} {sl21 : Array (Option Value)} {oc21 kV21 dc21 pm21 cd21 ct21 : Value}
    (a21 : PySem.W.nsIn K mainGlobals "_law_cell" = some (some (.ref f21))) (l21 : K.lookup f21 = some ⟨oc21, od21, .func (PySem.W.fnOf "_law_cell" "_law_cell" (defArgs (topS 43)) (defBody (topS 43)) (defScope (topS 43)) .none kV21 dc21 pm21 an21 cd21 ct21), sl21⟩) (c21 : PySem.W.codeIn K cd21 "_law_cell" = true) (k21 : PySem.W.keepIn K (.ref f21) = true)
    {f22 : Addr} {od22 an22 : Option Addr} {sl22 : Array (Option Value)} {oc22 kV22 dc22 pm22 cd22 ct22 : Value}
    (a22 : PySem.W.nsIn K mainGlobals "_law_draw" = some (some (.ref f22))) (l22 : K.lookup f22 = some ⟨oc22, od22, .func (PySem.W.fnOf "_law_draw" "_law_draw" (defArgs (topS 44)) (defBody (topS 44)) (defScope (topS 44)) .none kV22 dc22 pm22 an22 cd22 ct22), sl22⟩) (c22 : PySem.W.codeIn K cd22 "_law_draw" = true) (k22 : PySem.W.keepIn K (.ref f22) = true)
    {f23 : Addr} {od23 an23 : Option Addr} {sl23 : Array (Option Value)} {oc23 kV23 dc23 pm23 cd23 ct23 : Value}
    (a23 : PySem.W.nsIn K mainGlobals "_law_alike" = some (some (.ref f23))) (l23 : K.lookup f23 = some ⟨oc23, od23, .func (PySem.W.fnOf "_law_alike" "_law_alike" (defArgs (topS 45)) (defBody (topS 45)) (defScope (topS 45)) .none kV23 dc23 pm23 an23 cd23 ct23), sl23⟩) (c23 : PySem.W.codeIn K cd23 "_law_alike" = true) (k23 : PySem.W.keepIn K (.ref f23) = true)
    {f24 : Addr} {od24 an24 : Option Addr} {sl24 : Array (Option Value)} {oc24 kV24 dc24 pm24 cd24 ct24 : Value}
    (a24 : PySem.W.nsIn K mainGlobals "_law_row" = some (some (.ref f24))) (l24 : K.lookup f24 = some ⟨oc24, od24, .func (PySem.W.fnOf "_law_row" "_law_row" (defArgs (topS 46)) (defBody (topS 46)) (defScope (topS 46)) .none kV24 dc24 pm24 an24 cd24 ct24), sl24⟩) (c24 : PySem.W.codeIn K cd24 "_law_row" = true) (k24 : PySem.W.keepIn K (.ref f24) = true)
    {f25 : Addr} {od25 an25 : Option Addr} {sl25 : Array (Option Value)} {oc25 kV25 dc25 pm25 cd25 ct25 : Value}
    (a25 : PySem.W.nsIn K mainGlobals "_law_split" = some (some (.ref f25))) (l25 : K.lookup f25 = some ⟨oc25, od25, .func (PySem.W.fnOf "_law_split" "_law_split" (defArgs (topS 47)) (defBody (topS 47)) (defScope (topS 47)) .none kV25 dc25 pm25 an25 cd25 ct25), sl25⟩) (c25 : PySem.W.codeIn K cd25 "_law_split" = true) (k25 : PySem.W.keepIn K (.ref f25) = true)
    {f26 : Addr} {od26 an26 : Option Addr} {sl26 : Array (Option Value)} {oc26 kV26 dc26 pm26 cd26 ct26 : Value}
    (a26 : PySem.W.nsIn K mainGlobals "_law_tree" = some (some (.ref f26))) (l26 : K.lookup f26 = some ⟨oc26, od26, .func (PySem.W.fnOf "_law_tree" "_law_tree" (defArgs (topS 48)) (defBody (topS 48)) (defScope (topS 48)) .none kV26 dc26 pm26 an26 cd26 ct26), sl26⟩) (c26 : PySem.W.codeIn K cd26 "_law_tree" = true) (k26 : PySem.W.keepIn K (.ref f26) = true)
    {f27 : Addr} {od27 an27 : Option Addr} {sl27 : Array (Option Value)} {oc27 kV27 dc27 pm27 cd27 ct27 : Value}
    (a27 : PySem.W.nsIn K mainGlobals "law" = some (some (.ref f27))) (l27 : K.lookup f27 = some ⟨oc27, od27, .func (PySem.W.fnOf "law" "law" (defArgs (topS 49)) (defBody (topS 49)) (defScope (topS 49)) .none kV27 dc27 pm27 an27 cd27 ct27), sl27⟩) (c27 : PySem.W.codeIn K cd27 "law" = true) (k27 : PySem.W.keepIn K (.ref f27) = true)
    (z_bool : PySem.W.nsIn K mainGlobals "bool" = some none)
    (z_int : PySem.W.nsIn K mainGlobals "int" = some none)
    (z_isinstance : PySem.W.nsIn K mainGlobals "isinstance" = some none)
    (z_len : PySem.W.nsIn K mainGlobals "len" = some none)
    (z_list : PySem.W.nsIn K mainGlobals "list" = some none)
    (z_max : PySem.W.nsIn K mainGlobals "max" = some none)
    (z_range : PySem.W.nsIn K mainGlobals "range" = some none)
    (z_str : PySem.W.nsIn K mainGlobals "str" = some none)
    (z_tuple : PySem.W.nsIn K mainGlobals "tuple" = some none)
    {CP_Cursor : Addr}
    {fpCursor0 : Addr} {odpCursor0 anpCursor0 : Option Addr} {slpCursor0 : Array (Option Value)} {ocpCursor0 kVpCursor0 dcpCursor0 pmpCursor0 cdpCursor0 ctpCursor0 : Value}
    {fpCursor1 : Addr} {odpCursor1 anpCursor1 : Option Addr} {slpCursor1 : Array (Option Value)} {ocpCursor1 kVpCursor1 dcpCursor1 pmpCursor1 cdpCursor1 ctpCursor1 : Value}
    {fpCursor2 : Addr} {odpCursor2 anpCursor2 : Option Addr} {slpCursor2 : Array (Option Value)} {ocpCursor2 kVpCursor2 dcpCursor2 pmpCursor2 cdpCursor2 ctpCursor2 : Value}
    {fpCursor5 : Addr} {odpCursor5 anpCursor5 : Option Addr} {slpCursor5 : Array (Option Value)} {ocpCursor5 kVpCursor5 dcpCursor5 pmpCursor5 cdpCursor5 ctpCursor5 : Value}
    {fpCursor6 : Addr} {odpCursor6 anpCursor6 : Option Addr} {slpCursor6 : Array (Option Value)} {ocpCursor6 kVpCursor6 dcpCursor6 pmpCursor6 cdpCursor6 ctpCursor6 : Value}
    {fpCursor7 : Addr} {odpCursor7 anpCursor7 : Option Addr} {slpCursor7 : Array (Option Value)} {ocpCursor7 kVpCursor7 dcpCursor7 pmpCursor7 cdpCursor7 ctpCursor7 : Value}
    {fpCursor8 : Addr} {odpCursor8 anpCursor8 : Option Addr} {slpCursor8 : Array (Option Value)} {ocpCursor8 kVpCursor8 dcpCursor8 pmpCursor8 cdpCursor8 ctpCursor8 : Value}
    {fpCursor9 : Addr} {odpCursor9 anpCursor9 : Option Addr} {slpCursor9 : Array (Option Value)} {ocpCursor9 kVpCursor9 dcpCursor9 pmpCursor9 cdpCursor9 ctpCursor9 : Value}
    {fpCursor10 : Addr} {odpCursor10 anpCursor10 : Option Addr} {slpCursor10 : Array (Option Value)} {ocpCursor10 kVpCursor10 dcpCursor10 pmpCursor10 cdpCursor10 ctpCursor10 : Value}
    (pC_Cursor : PySem.W.nsIn K mainGlobals "Cursor" = some (some (.ref CP_Cursor)))
    (ppg_Cursor : PySem.W.plainGet K CP_Cursor Str.empty = true)
    (phd_Cursor : PySem.W.hasDictIn K CP_Cursor = true)
    (ppo_Cursor : PySem.W.plainOver K CP_Cursor = true)
    (psa_Cursor : PySem.W.findIn K (.ref CP_Cursor) "__setattr__" = some (some (.builtin "object.__setattr__")))
    (pmk_Cursor : PySem.W.makesIn K CP_Cursor = true)
    (pkc_Cursor : PySem.W.keepIn K (.ref CP_Cursor) = true)
    (pn_Cursor_words : PySem.W.findIn K (.ref CP_Cursor) "words" = some none)
    (pn_Cursor_taken : PySem.W.findIn K (.ref CP_Cursor) "taken" = some none)
    (apCursor0 : PySem.W.findIn K (.ref CP_Cursor) "__init__" = some (some (.ref fpCursor0)))
    (ipCursor0 : PySem.W.isFn K (.ref fpCursor0) = true)
    (lpCursor0 : K.lookup fpCursor0 = some ⟨ocpCursor0, odpCursor0, .func (PySem.W.fnOf "__init__" "Cursor.__init__" (defArgs (inClass (topS 15) 0)) (defBody (inClass (topS 15) 0)) (defScope (inClass (topS 15) 0)) .none kVpCursor0 dcpCursor0 pmpCursor0 anpCursor0 cdpCursor0 ctpCursor0), slpCursor0⟩)
    (cpCursor0 : PySem.W.codeIn K cdpCursor0 "Cursor.__init__" = true)
    (kpCursor0 : PySem.W.keepIn K (.ref fpCursor0) = true)
    (apCursor1 : PySem.W.findIn K (.ref CP_Cursor) "kind_here" = some (some (.ref fpCursor1)))
    (ipCursor1 : PySem.W.isFn K (.ref fpCursor1) = true)
    (lpCursor1 : K.lookup fpCursor1 = some ⟨ocpCursor1, odpCursor1, .func (PySem.W.fnOf "kind_here" "Cursor.kind_here" (defArgs (inClass (topS 15) 1)) (defBody (inClass (topS 15) 1)) (defScope (inClass (topS 15) 1)) .none kVpCursor1 dcpCursor1 pmpCursor1 anpCursor1 cdpCursor1 ctpCursor1), slpCursor1⟩)
    (cpCursor1 : PySem.W.codeIn K cdpCursor1 "Cursor.kind_here" = true)
    (kpCursor1 : PySem.W.keepIn K (.ref fpCursor1) = true)
    (apCursor2 : PySem.W.findIn K (.ref CP_Cursor) "word_here" = some (some (.ref fpCursor2)))
    (ipCursor2 : PySem.W.isFn K (.ref fpCursor2) = true)
    (lpCursor2 : K.lookup fpCursor2 = some ⟨ocpCursor2, odpCursor2, .func (PySem.W.fnOf "word_here" "Cursor.word_here" (defArgs (inClass (topS 15) 2)) (defBody (inClass (topS 15) 2)) (defScope (inClass (topS 15) 2)) .none kVpCursor2 dcpCursor2 pmpCursor2 anpCursor2 cdpCursor2 ctpCursor2), slpCursor2⟩)
    (cpCursor2 : PySem.W.codeIn K cdpCursor2 "Cursor.word_here" = true)
    (kpCursor2 : PySem.W.keepIn K (.ref fpCursor2) = true)
    (apCursor5 : PySem.W.findIn K (.ref CP_Cursor) "take" = some (some (.ref fpCursor5)))
    (ipCursor5 : PySem.W.isFn K (.ref fpCursor5) = true)
    (lpCursor5 : K.lookup fpCursor5 = some ⟨ocpCursor5, odpCursor5, .func (PySem.W.fnOf "take" "Cursor.take" (defArgs (inClass (topS 15) 5)) (defBody (inClass (topS 15) 5)) (defScope (inClass (topS 15) 5)) .none kVpCursor5 dcpCursor5 pmpCursor5 anpCursor5 cdpCursor5 ctpCursor5), slpCursor5⟩)
    (cpCursor5 : PySem.W.codeIn K cdpCursor5 "Cursor.take" = true)
    (kpCursor5 : PySem.W.keepIn K (.ref fpCursor5) = true)
    (apCursor6 : PySem.W.findIn K (.ref CP_Cursor) "take_if" = some (some (.ref fpCursor6)))
    (ipCursor6 : PySem.W.isFn K (.ref fpCursor6) = true)
    (lpCursor6 : K.lookup fpCursor6 = some ⟨ocpCursor6, odpCursor6, .func (PySem.W.fnOf "take_if" "Cursor.take_if" (defArgs (inClass (topS 15) 6)) (defBody (inClass (topS 15) 6)) (defScope (inClass (topS 15) 6)) .none kVpCursor6 dcpCursor6 pmpCursor6 anpCursor6 cdpCursor6 ctpCursor6), slpCursor6⟩)
    (cpCursor6 : PySem.W.codeIn K cdpCursor6 "Cursor.take_if" = true)
    (kpCursor6 : PySem.W.keepIn K (.ref fpCursor6) = true)
    (apCursor7 : PySem.W.findIn K (.ref CP_Cursor) "take_only" = some (some (.ref fpCursor7)))
    (ipCursor7 : PySem.W.isFn K (.ref fpCursor7) = true)
    (lpCursor7 : K.lookup fpCursor7 = some ⟨ocpCursor7, odpCursor7, .func (PySem.W.fnOf "take_only" "Cursor.take_only" (defArgs (inClass (topS 15) 7)) (defBody (inClass (topS 15) 7)) (defScope (inClass (topS 15) 7)) .none kVpCursor7 dcpCursor7 pmpCursor7 anpCursor7 cdpCursor7 ctpCursor7), slpCursor7⟩)
    (cpCursor7 : PySem.W.codeIn K cdpCursor7 "Cursor.take_only" = true)
    (kpCursor7 : PySem.W.keepIn K (.ref fpCursor7) = true)
    (apCursor8 : PySem.W.findIn K (.ref CP_Cursor) "name_is_here" = some (some (.ref fpCursor8)))
    (ipCursor8 : PySem.W.isFn K (.ref fpCursor8) = true)
    (lpCursor8 : K.lookup fpCursor8 = some ⟨ocpCursor8, odpCursor8, .func (PySem.W.fnOf "name_is_here" "Cursor.name_is_here" (defArgs (inClass (topS 15) 8)) (defBody (inClass (topS 15) 8)) (defScope (inClass (topS 15) 8)) .none kVpCursor8 dcpCursor8 pmpCursor8 anpCursor8 cdpCursor8 ctpCursor8), slpCursor8⟩)
    (cpCursor8 : PySem.W.codeIn K cdpCursor8 "Cursor.name_is_here" = true)
    (kpCursor8 : PySem.W.keepIn K (.ref fpCursor8) = true)
    (apCursor9 : PySem.W.findIn K (.ref CP_Cursor) "take_name" = some (some (.ref fpCursor9)))
    (ipCursor9 : PySem.W.isFn K (.ref fpCursor9) = true)
    (lpCursor9 : K.lookup fpCursor9 = some ⟨ocpCursor9, odpCursor9, .func (PySem.W.fnOf "take_name" "Cursor.take_name" (defArgs (inClass (topS 15) 9)) (defBody (inClass (topS 15) 9)) (defScope (inClass (topS 15) 9)) .none kVpCursor9 dcpCursor9 pmpCursor9 anpCursor9 cdpCursor9 ctpCursor9), slpCursor9⟩)
    (cpCursor9 : PySem.W.codeIn K cdpCursor9 "Cursor.take_name" = true)
    (kpCursor9 : PySem.W.keepIn K (.ref fpCursor9) = true)
    (apCursor10 : PySem.W.findIn K (.ref CP_Cursor) "take_number" = some (some (.ref fpCursor10)))
    (ipCursor10 : PySem.W.isFn K (.ref fpCursor10) = true)
    (lpCursor10 : K.lookup fpCursor10 = some ⟨ocpCursor10, odpCursor10, .func (PySem.W.fnOf "take_number" "Cursor.take_number" (defArgs (inClass (topS 15) 10)) (defBody (inClass (topS 15) 10)) (defScope (inClass (topS 15) 10)) .none kVpCursor10 dcpCursor10 pmpCursor10 anpCursor10 cdpCursor10 ctpCursor10), slpCursor10⟩)
    (cpCursor10 : PySem.W.codeIn K cdpCursor10 "Cursor.take_number" = true)
    (kpCursor10 : PySem.W.keepIn K (.ref fpCursor10) = true)
    {gt_DEEPEST : Tok} (gc_DEEPEST : PySem.W.nsIn K mainGlobals "DEEPEST" = some (some (Value.int 12 gt_DEEPEST)))
    {gt_HIGHEST : Tok} (gc_HIGHEST : PySem.W.nsIn K mainGlobals "HIGHEST" = some (some (Value.int 30 gt_HIGHEST)))
    {gA_CALCULATIONS : Addr} {gD_CALCULATIONS : Option Addr} {gN_CALCULATIONS : Nat} {gS_CALCULATIONS : Array (Option Value)} {gt0_CALCULATIONS gt1_CALCULATIONS gt2_CALCULATIONS : Tok}
    (gn_CALCULATIONS : PySem.W.nsIn K mainGlobals "CALCULATIONS" = some (some (.ref gA_CALCULATIONS)))
    (gl_CALCULATIONS : K.lookup gA_CALCULATIONS = some ⟨.type "tuple", gD_CALCULATIONS, .seq #[.str "+" gt0_CALCULATIONS, .str "-" gt1_CALCULATIONS, .str "*" gt2_CALCULATIONS] gN_CALCULATIONS, gS_CALCULATIONS⟩)
    {gA_COMPARISONS : Addr} {gD_COMPARISONS : Option Addr} {gN_COMPARISONS : Nat} {gS_COMPARISONS : Array (Option Value)} {gt0_COMPARISONS gt1_COMPARISONS gt2_COMPARISONS gt3_COMPARISONS gt4_COMPARISONS gt5_COMPARISONS : Tok}
    (gn_COMPARISONS : PySem.W.nsIn K mainGlobals "COMPARISONS" = some (some (.ref gA_COMPARISONS)))
    (gl_COMPARISONS : K.lookup gA_COMPARISONS = some ⟨.type "tuple", gD_COMPARISONS, .seq #[.str "<" gt0_COMPARISONS, .str "<=" gt1_COMPARISONS, .str "=" gt2_COMPARISONS, .str "!=" gt3_COMPARISONS, .str ">=" gt4_COMPARISONS, .str ">" gt5_COMPARISONS] gN_COMPARISONS, gS_COMPARISONS⟩)
    {gA_PREFIXES : Addr} {gD_PREFIXES : Option Addr} {gN_PREFIXES : Nat} {gS_PREFIXES : Array (Option Value)} {gt0_PREFIXES gt1_PREFIXES gt2_PREFIXES gt3_PREFIXES gt4_PREFIXES gt5_PREFIXES gt6_PREFIXES gt7_PREFIXES : Tok}
    (gn_PREFIXES : PySem.W.nsIn K mainGlobals "PREFIXES" = some (some (.ref gA_PREFIXES)))
    (gl_PREFIXES : K.lookup gA_PREFIXES = some ⟨.type "tuple", gD_PREFIXES, .seq #[.str "not" gt0_PREFIXES, .str "next" gt1_PREFIXES, .str "all" gt2_PREFIXES, .str "before" gt3_PREFIXES, .str "can" gt4_PREFIXES, .str "must" gt5_PREFIXES, .str "once" gt6_PREFIXES, .str "always" gt7_PREFIXES] gN_PREFIXES, gS_PREFIXES⟩)
    {gA_RESERVED : Addr} {gD_RESERVED : Option Addr} {gN_RESERVED : Nat} {gS_RESERVED : Array (Option Value)} {gt0_RESERVED gt1_RESERVED gt2_RESERVED gt3_RESERVED gt4_RESERVED gt5_RESERVED gt6_RESERVED gt7_RESERVED gt8_RESERVED gt9_RESERVED gt10_RESERVED gt11_RESERVED gt12_RESERVED gt13_RESERVED gt14_RESERVED gt15_RESERVED gt16_RESERVED gt17_RESERVED gt18_RESERVED gt19_RESERVED gt20_RESERVED gt21_RESERVED gt22_RESERVED gt23_RESERVED gt24_RESERVED gt25_RESERVED gt26_RESERVED : Tok}
    (gn_RESERVED : PySem.W.nsIn K mainGlobals "RESERVED" = some (some (.ref gA_RESERVED)))
    (gl_RESERVED : K.lookup gA_RESERVED = some ⟨.type "tuple", gD_RESERVED, .seq #[.str "const" gt0_RESERVED, .str "part" gt1_RESERVED, .str "var" gt2_RESERVED, .str "from" gt3_RESERVED, .str "move" gt4_RESERVED, .str "when" gt5_RESERVED, .str "do" gt6_RESERVED, .str "sensor" gt7_RESERVED, .str "lossy" gt8_RESERVED, .str "define" gt9_RESERVED, .str "require" gt10_RESERVED, .str "implies" gt11_RESERVED, .str "or" gt12_RESERVED, .str "and" gt13_RESERVED, .str "since" gt14_RESERVED, .str "not" gt15_RESERVED, .str "next" gt16_RESERVED, .str "all" gt17_RESERVED, .str "can" gt18_RESERVED, .str "must" gt19_RESERVED, .str "before" gt20_RESERVED, .str "once" gt21_RESERVED, .str "always" gt22_RESERVED, .str "min" gt23_RESERVED, .str "max" gt24_RESERVED, .str "true" gt25_RESERVED, .str "false" gt26_RESERVED] gN_RESERVED, gS_RESERVED⟩)
    {gA_SIGNS : Addr} {gD_SIGNS : Option Addr} {gN_SIGNS : Nat} {gS_SIGNS : Array (Option Value)} {gt0_SIGNS gt1_SIGNS gt2_SIGNS gt3_SIGNS gt4_SIGNS gt5_SIGNS gt6_SIGNS gt7_SIGNS gt8_SIGNS gt9_SIGNS gt10_SIGNS gt11_SIGNS gt12_SIGNS gt13_SIGNS gt14_SIGNS gt15_SIGNS gt16_SIGNS gt17_SIGNS gt18_SIGNS gt19_SIGNS gt20_SIGNS gt21_SIGNS : Tok}
    (gn_SIGNS : PySem.W.nsIn K mainGlobals "SIGNS" = some (some (.ref gA_SIGNS)))
    (gl_SIGNS : K.lookup gA_SIGNS = some ⟨.type "tuple", gD_SIGNS, .seq #[.str ":=" gt0_SIGNS, .str ".." gt1_SIGNS, .str "<=" gt2_SIGNS, .str ">=" gt3_SIGNS, .str "!=" gt4_SIGNS, .str "+-" gt5_SIGNS, .str "{" gt6_SIGNS, .str "}" gt7_SIGNS, .str "(" gt8_SIGNS, .str ")" gt9_SIGNS, .str "[" gt10_SIGNS, .str "]" gt11_SIGNS, .str ";" gt12_SIGNS, .str ":" gt13_SIGNS, .str "," gt14_SIGNS, .str "." gt15_SIGNS, .str "<" gt16_SIGNS, .str ">" gt17_SIGNS, .str "=" gt18_SIGNS, .str "+" gt19_SIGNS, .str "-" gt20_SIGNS, .str "*" gt21_SIGNS] gN_SIGNS, gS_SIGNS⟩)
    {gA_TIMED : Addr} {gD_TIMED : Option Addr} {gN_TIMED : Nat} {gS_TIMED : Array (Option Value)} {gt0_TIMED gt1_TIMED gt2_TIMED gt3_TIMED : Tok}
    (gn_TIMED : PySem.W.nsIn K mainGlobals "TIMED" = some (some (.ref gA_TIMED)))
    (gl_TIMED : K.lookup gA_TIMED = some ⟨.type "tuple", gD_TIMED, .seq #[.str "can" gt0_TIMED, .str "must" gt1_TIMED, .str "once" gt2_TIMED, .str "always" gt3_TIMED] gN_TIMED, gS_TIMED⟩)
    {gt_BLANKS : Tok}
    {gt_DIGITS : Tok}
    {gt_LETTERS : Tok}
    {gA_LONGEST : Addr} {gN_LONGEST : Nat} {gh0_LONGEST gh1_LONGEST : Int} {gt0_LONGEST gu0_LONGEST gt1_LONGEST gu1_LONGEST : Tok}
    {gA_MINIMUM_AND_MAXIMUM : Addr} {gN_MINIMUM_AND_MAXIMUM : Nat} {gh0_MINIMUM_AND_MAXIMUM gh1_MINIMUM_AND_MAXIMUM : Int} {gt0_MINIMUM_AND_MAXIMUM gu0_MINIMUM_AND_MAXIMUM gt1_MINIMUM_AND_MAXIMUM gu1_MINIMUM_AND_MAXIMUM : Tok}
    (gc_BLANKS : PySem.W.nsIn K mainGlobals "BLANKS" = some (some (Value.str (Str.ofString " \t\n") gt_BLANKS)))
    (gc_DIGITS : PySem.W.nsIn K mainGlobals "DIGITS" = some (some (Value.str (Str.ofString "0123456789") gt_DIGITS)))
    (gc_LETTERS : PySem.W.nsIn K mainGlobals "LETTERS" = some (some (Value.str (Str.ofString "abcdefghijklmnopqrstuvwxyzABCDEFGHIJKLMNOPQRSTUVWXYZ_") gt_LETTERS)))
    (gn_LONGEST : PySem.W.nsIn K mainGlobals "LONGEST" = some (some (.ref gA_LONGEST)))
    (gl_LONGEST : K.lookup gA_LONGEST = some { cls := .type "dict", data := .dict #[⟨gh0_LONGEST, .str (Str.ofString "word") gt0_LONGEST, .int 20 gu0_LONGEST⟩, ⟨gh1_LONGEST, .str (Str.ofString "number") gt1_LONGEST, .int 7 gu1_LONGEST⟩] gN_LONGEST })
    (gk_LONGEST : PySem.W.KeysLit w.params [⟨gh0_LONGEST, .str (Str.ofString "word") gt0_LONGEST, .int 20 gu0_LONGEST⟩, ⟨gh1_LONGEST, .str (Str.ofString "number") gt1_LONGEST, .int 7 gu1_LONGEST⟩])
    (gs_LONGEST : (gA_LONGEST == sysModules) = false)
    (gn_MINIMUM_AND_MAXIMUM : PySem.W.nsIn K mainGlobals "MINIMUM_AND_MAXIMUM" = some (some (.ref gA_MINIMUM_AND_MAXIMUM)))
    (gl_MINIMUM_AND_MAXIMUM : K.lookup gA_MINIMUM_AND_MAXIMUM = some { cls := .type "dict", data := .dict #[⟨gh0_MINIMUM_AND_MAXIMUM, .str (Str.ofString "min") gt0_MINIMUM_AND_MAXIMUM, .str (Str.ofString "least") gu0_MINIMUM_AND_MAXIMUM⟩, ⟨gh1_MINIMUM_AND_MAXIMUM, .str (Str.ofString "max") gt1_MINIMUM_AND_MAXIMUM, .str (Str.ofString "greatest") gu1_MINIMUM_AND_MAXIMUM⟩] gN_MINIMUM_AND_MAXIMUM })
    (gk_MINIMUM_AND_MAXIMUM : PySem.W.KeysLit w.params [⟨gh0_MINIMUM_AND_MAXIMUM, .str (Str.ofString "min") gt0_MINIMUM_AND_MAXIMUM, .str (Str.ofString "least") gu0_MINIMUM_AND_MAXIMUM⟩, ⟨gh1_MINIMUM_AND_MAXIMUM, .str (Str.ofString "max") gt1_MINIMUM_AND_MAXIMUM, .str (Str.ofString "greatest") gu1_MINIMUM_AND_MAXIMUM⟩])
    (gs_MINIMUM_AND_MAXIMUM : (gA_MINIMUM_AND_MAXIMUM == sysModules) = false)
    : ∃ fd : FuncData, (∀ (s : Shared) (v : Value), BindsTo s fd ⟨[v], []⟩ [("script", v)]) ∧ ∀ base : Heap, K.In base → base.Ns mainGlobals mg → FnOk l.prog w K mg base CX0 67 fa fd ["script"] (Pure K 1 0 gLaw) := by
  have e := hfa.symm.trans (PySem.W.mg_of X G a27)
  cases e
  have F0 := fun_mk (st := topS 10) l0 c0 k0
  have b0 := F0.binds (ps := ["text"]) fun _ _ _ _ _ _ us hl => match us, hl with | [_], _ => rfl
  have F1 := fun_mk (st := topS 11) l1 c1 k1
  have b1 := F1.binds (ps := ["text", "place"]) fun _ _ _ _ _ _ us hl => match us, hl with | [_, _], _ => rfl
  have F2 := fun_mk (st := topS 12) l2 c2 k2
  have b2 := F2.binds (ps := ["text", "place"]) fun _ _ _ _ _ _ us hl => match us, hl with | [_, _], _ => rfl
  have F3 := fun_mk (st := topS 13) l3 c3 k3
  have b3 := F3.binds (ps := ["text", "place", "characters"]) fun _ _ _ _ _ _ us hl => match us, hl with | [_, _, _], _ => rfl
  have F4 := fun_mk (st := topS 24) l4 c4 k4
  have F5 := fun_mk (st := topS 25) l5 c5 k5
  have b5 := F5.binds (ps := ["cursor", "level"]) fun _ _ _ _ _ _ us hl => match us, hl with | [_, _], _ => rfl
  have F6 := fun_mk (st := topS 26) l6 c6 k6
  have b6 := F6.binds (ps := ["cursor", "level"]) fun _ _ _ _ _ _ us hl => match us, hl with | [_, _], _ => rfl
  have F7 := fun_mk (st := topS 27) l7 c7 k7
  have b7 := F7.binds (ps := ["cursor", "level"]) fun _ _ _ _ _ _ us hl => match us, hl with | [_, _], _ => rfl
  have F8 := fun_mk (st := topS 28) l8 c8 k8
  have b8 := F8.binds (ps := ["cursor", "level"]) fun _ _ _ _ _ _ us hl => match us, hl with | [_, _], _ => rfl
  have F9 := fun_mk (st := topS 29) l9 c9 k9
  have b9 := F9.binds (ps := ["cursor", "level"]) fun _ _ _ _ _ _ us hl => match us, hl with | [_, _], _ => rfl
  have F10 := fun_mk (st := topS 30) l10 c10 k10
  have b10 := F10.binds (ps := ["cursor", "level", "signs", "take_operand"]) fun _ _ _ _ _ _ us hl => match us, hl with | [_, _, _, _], _ => rfl
  have F11 := fun_mk (st := topS 31) l11 c11 k11
  have b11 := F11.binds (ps := ["cursor", "level"]) fun _ _ _ _ _ _ us hl => match us, hl with | [_, _], _ => rfl
  have F12 := fun_mk (st := topS 32) l12 c12 k12
  have b12 := F12.binds (ps := ["cursor"]) fun _ _ _ _ _ _ us hl => match us, hl with | [_], _ => rfl
  have F13 := fun_mk (st := topS 33) l13 c13 k13
  have b13 := F13.binds (ps := ["cursor", "level"]) fun _ _ _ _ _ _ us hl => match us, hl with | [_, _], _ => rfl
  have F14 := fun_mk (st := topS 34) l14 c14 k14
  have b14 := F14.binds (ps := ["cursor", "level"]) fun _ _ _ _ _ _ us hl => match us, hl with | [_, _], _ => rfl
  have F15 := fun_mk (st := topS 35) l15 c15 k15
  have b15 := F15.binds (ps := ["cursor", "level"]) fun _ _ _ _ _ _ us hl => match us, hl with | [_, _], _ => rfl
  have F16 := fun_mk (st := topS 36) l16 c16 k16
  have b16 := F16.binds (ps := ["cursor", "level"]) fun _ _ _ _ _ _ us hl => match us, hl with | [_, _], _ => rfl
  have F17 := fun_mk (st := topS 37) l17 c17 k17
  have b17 := F17.binds (ps := ["cursor", "level"]) fun _ _ _ _ _ _ us hl => match us, hl with | [_, _], _ => rfl
  have F18 := fun_mk (st := topS 38) l18 c18 k18
  have b18 := F18.binds (ps := ["cursor", "level"]) fun _ _ _ _ _ _ us hl => match us, hl with | [_, _], _ => rfl
  have F19 := fun_mk (st := topS 39) l19 c19 k19
  have b19 := F19.binds (ps := ["cursor"]) fun _ _ _ _ _ _ us hl => match us, hl with | [_], _ => rfl
  have F20 := fun_mk (st := topS 41) l20 c20 k20
  have F21 := fun_mk (st := topS 43) l21 c21 k21
  have b21 := F21.binds (ps := ["script", "k"]) fun _ _ _ _ _ _ us hl => match us, hl with | [_, _], _ => rfl
  have F22 := fun_mk (st := topS 44) l22 c22 k22
  have b22 := F22.binds (ps := ["script", "k", "sizes"]) fun _ _ _ _ _ _ us hl => match us, hl with | [_, _, _], _ => rfl
  have F23 := fun_mk (st := topS 45) l23 c23 k23
  have b23 := F23.binds (ps := ["actual", "expected"]) fun _ _ _ _ _ _ us hl => match us, hl with | [_, _], _ => rfl
  have F24 := fun_mk (st := topS 46) l24 c24 k24
  have b24 := F24.binds (ps := ["script"]) fun _ _ _ _ _ _ us hl => match us, hl with | [_], _ => rfl
  have F25 := fun_mk (st := topS 47) l25 c25 k25
  have b25 := F25.binds (ps := ["words", "signs", "last"]) fun _ _ _ _ _ _ us hl => match us, hl with | [_, _, _], _ => rfl
  have F26 := fun_mk (st := topS 48) l26 c26 k26
  have b26 := F26.binds (ps := ["words", "level"]) fun _ _ _ _ _ _ us hl => match us, hl with | [_, _], _ => rfl
  have F27 := fun_mk (st := topS 49) l27 c27 k27
  have b27 := F27.binds (ps := ["script"]) fun _ _ _ _ _ _ us hl => match us, hl with | [_], _ => rfl
  have FpCursor0 := fun_mk (st := (inClass (topS 15) 0)) lpCursor0 cpCursor0 kpCursor0
  have bpCursor0 := FpCursor0.binds (ps := ["self", "text"]) fun _ _ _ _ _ _ us hl => match us, hl with | [_, _], _ => rfl
  have FpCursor1 := fun_mk (st := (inClass (topS 15) 1)) lpCursor1 cpCursor1 kpCursor1
  have bpCursor1 := FpCursor1.binds (ps := ["self"]) fun _ _ _ _ _ _ us hl => match us, hl with | [_], _ => rfl
  have FpCursor2 := fun_mk (st := (inClass (topS 15) 2)) lpCursor2 cpCursor2 kpCursor2
  have bpCursor2 := FpCursor2.binds (ps := ["self"]) fun _ _ _ _ _ _ us hl => match us, hl with | [_], _ => rfl
  have FpCursor5 := fun_mk (st := (inClass (topS 15) 5)) lpCursor5 cpCursor5 kpCursor5
  have bpCursor5 := FpCursor5.binds (ps := ["self"]) fun _ _ _ _ _ _ us hl => match us, hl with | [_], _ => rfl
  have FpCursor6 := fun_mk (st := (inClass (topS 15) 6)) lpCursor6 cpCursor6 kpCursor6
  have bpCursor6 := FpCursor6.binds (ps := ["self", "word"]) fun _ _ _ _ _ _ us hl => match us, hl with | [_, _], _ => rfl
  have FpCursor7 := fun_mk (st := (inClass (topS 15) 7)) lpCursor7 cpCursor7 kpCursor7
  have bpCursor7 := FpCursor7.binds (ps := ["self", "word"]) fun _ _ _ _ _ _ us hl => match us, hl with | [_, _], _ => rfl
  have FpCursor8 := fun_mk (st := (inClass (topS 15) 8)) lpCursor8 cpCursor8 kpCursor8
  have bpCursor8 := FpCursor8.binds (ps := ["self"]) fun _ _ _ _ _ _ us hl => match us, hl with | [_], _ => rfl
  have FpCursor9 := fun_mk (st := (inClass (topS 15) 9)) lpCursor9 cpCursor9 kpCursor9
  have bpCursor9 := FpCursor9.binds (ps := ["self"]) fun _ _ _ _ _ _ us hl => match us, hl with | [_], _ => rfl
  have FpCursor10 := fun_mk (st := (inClass (topS 15) 10)) lpCursor10 cpCursor10 kpCursor10
  have bpCursor10 := FpCursor10.binds (ps := ["self"]) fun _ _ _ _ _ _ us hl => match us, hl with | [_], _ => rfl
  letI iPC_Cursor : PC_Cursor := ⟨CP_Cursor⟩
  let T : Txt w K mg := {
    a_words_of := _,
    d_words_of := _,
    F_words_of := F0,
    m_words_of := PySem.W.mg_of X G a0,
    b_words_of := b0,
    a_find_piece := _,
    d_find_piece := _,
    F_find_piece := F1,
    m_find_piece := PySem.W.mg_of X G a1,
    b_find_piece := b1,
    a_comment_length := _,
    d_comment_length := _,
    F_comment_length := F2,
    m_comment_length := PySem.W.mg_of X G a2,
    b_comment_length := b2,
    a_length_of := _,
    d_length_of := _,
    F_length_of := F3,
    m_length_of := PySem.W.mg_of X G a3,
    b_length_of := b3,
    a_take_whole := _,
    d_take_whole := _,
    F_take_whole := F4,
    m_take_whole := PySem.W.mg_of X G a4,
    b_take_whole := kbn_one fun _ _ => rfl,
    a_level_below := _,
    d_level_below := _,
    F_level_below := F5,
    m_level_below := PySem.W.mg_of X G a5,
    b_level_below := b5,
    a_take_expression := _,
    d_take_expression := _,
    F_take_expression := F6,
    m_take_expression := PySem.W.mg_of X G a6,
    b_take_expression := b6,
    a_take_choice := _,
    d_take_choice := _,
    F_take_choice := F7,
    m_take_choice := PySem.W.mg_of X G a7,
    b_take_choice := b7,
    a_take_union := _,
    d_take_union := _,
    F_take_union := F8,
    m_take_union := PySem.W.mg_of X G a8,
    b_take_union := b8,
    a_take_past := _,
    d_take_past := _,
    F_take_past := F9,
    m_take_past := PySem.W.mg_of X G a9,
    b_take_past := b9,
    a_take_joined := _,
    d_take_joined := _,
    F_take_joined := F10,
    m_take_joined := PySem.W.mg_of X G a10,
    b_take_joined := b10,
    a_take_prefix := _,
    d_take_prefix := _,
    F_take_prefix := F11,
    m_take_prefix := PySem.W.mg_of X G a11,
    b_take_prefix := b11,
    a_take_limit := _,
    d_take_limit := _,
    F_take_limit := F12,
    m_take_limit := PySem.W.mg_of X G a12,
    b_take_limit := b12,
    a_take_comparison := _,
    d_take_comparison := _,
    F_take_comparison := F13,
    m_take_comparison := PySem.W.mg_of X G a13,
    b_take_comparison := b13,
    a_take_sum := _,
    d_take_sum := _,
    F_take_sum := F14,
    m_take_sum := PySem.W.mg_of X G a14,
    b_take_sum := b14,
    a_take_product := _,
    d_take_product := _,
    F_take_product := F15,
    m_take_product := PySem.W.mg_of X G a15,
    b_take_product := b15,
    a_take_negation := _,
    d_take_negation := _,
    F_take_negation := F16,
    m_take_negation := PySem.W.mg_of X G a16,
    b_take_negation := b16,
    a_take_atom := _,
    d_take_atom := _,
    F_take_atom := F17,
    m_take_atom := PySem.W.mg_of X G a17,
    b_take_atom := b17,
    a_take_pair := _,
    d_take_pair := _,
    F_take_pair := F18,
    m_take_pair := PySem.W.mg_of X G a18,
    b_take_pair := b18,
    a_take_leaf := _,
    d_take_leaf := _,
    F_take_leaf := F19,
    m_take_leaf := PySem.W.mg_of X G a19,
    b_take_leaf := b19,
    a_parse_expression := _,
    d_parse_expression := _,
    F_parse_expression := F20,
    m_parse_expression := PySem.W.mg_of X G a20,
    b_parse_expression := kbn_one fun _ _ => rfl,
    a__law_cell := _,
    d__law_cell := _,
    F__law_cell := F21,
    m__law_cell := PySem.W.mg_of X G a21,
    b__law_cell := b21,
    a__law_draw := _,
    d__law_draw := _,
    F__law_draw := F22,
    m__law_draw := PySem.W.mg_of X G a22,
    b__law_draw := b22,
    a__law_alike := _,
    d__law_alike := _,
    F__law_alike := F23,
    m__law_alike := PySem.W.mg_of X G a23,
    b__law_alike := b23,
    a__law_row := _,
    d__law_row := _,
    F__law_row := F24,
    m__law_row := PySem.W.mg_of X G a24,
    b__law_row := b24,
    a__law_split := _,
    d__law_split := _,
    F__law_split := F25,
    m__law_split := PySem.W.mg_of X G a25,
    b__law_split := b25,
    a__law_tree := _,
    d__law_tree := _,
    F__law_tree := F26,
    m__law_tree := PySem.W.mg_of X G a26,
    b__law_tree := b26,
    a_law := _,
    d_law := _,
    F_law := F27,
    m_law := PySem.W.mg_of X G a27,
    b_law := b27,
    rc_Cursor := ⟨ppg_Cursor, phd_Cursor, ppo_Cursor, psa_Cursor⟩,
    m_Cursor := PySem.W.mg_of X G pC_Cursor,
    mk_Cursor := ⟨pmk_Cursor, apCursor0, ipCursor0, pkc_Cursor⟩,
    n_Cursor_words := pn_Cursor_words,
    n_Cursor_taken := pn_Cursor_taken,
    a_Cursor___init__ := _,
    d_Cursor___init__ := _,
    F_Cursor___init__ := FpCursor0,
    b_Cursor___init__ := bpCursor0,
    a_Cursor_kind_here := _,
    d_Cursor_kind_here := _,
    F_Cursor_kind_here := FpCursor1,
    b_Cursor_kind_here := bpCursor1,
    me_Cursor_kind_here := ⟨apCursor1, ipCursor1, kpCursor1⟩,
    a_Cursor_word_here := _,
    d_Cursor_word_here := _,
    F_Cursor_word_here := FpCursor2,
    b_Cursor_word_here := bpCursor2,
    me_Cursor_word_here := ⟨apCursor2, ipCursor2, kpCursor2⟩,
    a_Cursor_take := _,
    d_Cursor_take := _,
    F_Cursor_take := FpCursor5,
    b_Cursor_take := bpCursor5,
    me_Cursor_take := ⟨apCursor5, ipCursor5, kpCursor5⟩,
    a_Cursor_take_if := _,
    d_Cursor_take_if := _,
    F_Cursor_take_if := FpCursor6,
    b_Cursor_take_if := bpCursor6,
    me_Cursor_take_if := ⟨apCursor6, ipCursor6, kpCursor6⟩,
    a_Cursor_take_only := _,
    d_Cursor_take_only := _,
    F_Cursor_take_only := FpCursor7,
    b_Cursor_take_only := bpCursor7,
    me_Cursor_take_only := ⟨apCursor7, ipCursor7, kpCursor7⟩,
    a_Cursor_name_is_here := _,
    d_Cursor_name_is_here := _,
    F_Cursor_name_is_here := FpCursor8,
    b_Cursor_name_is_here := bpCursor8,
    me_Cursor_name_is_here := ⟨apCursor8, ipCursor8, kpCursor8⟩,
    a_Cursor_take_name := _,
    d_Cursor_take_name := _,
    F_Cursor_take_name := FpCursor9,
    b_Cursor_take_name := bpCursor9,
    me_Cursor_take_name := ⟨apCursor9, ipCursor9, kpCursor9⟩,
    a_Cursor_take_number := _,
    d_Cursor_take_number := _,
    F_Cursor_take_number := FpCursor10,
    b_Cursor_take_number := bpCursor10,
    me_Cursor_take_number := ⟨apCursor10, ipCursor10, kpCursor10⟩,
    c_DEEPEST := ⟨_, PySem.W.mg_of X G gc_DEEPEST⟩,
    c_HIGHEST := ⟨_, PySem.W.mg_of X G gc_HIGHEST⟩,
    c_BLANKS := ⟨_, PySem.W.mg_of X G gc_BLANKS⟩,
    c_DIGITS := ⟨_, PySem.W.mg_of X G gc_DIGITS⟩,
    c_LETTERS := ⟨_, PySem.W.mg_of X G gc_LETTERS⟩,
    g_LONGEST := ⟨⟨gA_LONGEST, _, gN_LONGEST, PySem.W.mg_of X G gn_LONGEST, ⟨gl_LONGEST, gk_LONGEST, gs_LONGEST⟩, (.cons (.cons .nil))⟩⟩,
    g_MINIMUM_AND_MAXIMUM := ⟨⟨gA_MINIMUM_AND_MAXIMUM, _, gN_MINIMUM_AND_MAXIMUM, PySem.W.mg_of X G gn_MINIMUM_AND_MAXIMUM, ⟨gl_MINIMUM_AND_MAXIMUM, gk_MINIMUM_AND_MAXIMUM, gs_MINIMUM_AND_MAXIMUM⟩, (.cons (.cons .nil))⟩⟩,
    g_CALCULATIONS := glT_mk (PySem.W.mg_of X G gn_CALCULATIONS) gl_CALCULATIONS (Nat.le_of_ble_eq_true rfl) (.cons ⟨gt0_CALCULATIONS, rfl⟩ (.cons ⟨gt1_CALCULATIONS, rfl⟩ (.cons ⟨gt2_CALCULATIONS, rfl⟩ .nil))),
    g_COMPARISONS := glT_mk (PySem.W.mg_of X G gn_COMPARISONS) gl_COMPARISONS (Nat.le_of_ble_eq_true rfl) (.cons ⟨gt0_COMPARISONS, rfl⟩ (.cons ⟨gt1_COMPARISONS, rfl⟩ (.cons ⟨gt2_COMPARISONS, rfl⟩ (.cons ⟨gt3_COMPARISONS, rfl⟩ (.cons ⟨gt4_COMPARISONS, rfl⟩ (.cons ⟨gt5_COMPARISONS, rfl⟩ .nil)))))),
    g_PREFIXES := glT_mk (PySem.W.mg_of X G gn_PREFIXES) gl_PREFIXES (Nat.le_of_ble_eq_true rfl) (.cons ⟨gt0_PREFIXES, rfl⟩ (.cons ⟨gt1_PREFIXES, rfl⟩ (.cons ⟨gt2_PREFIXES, rfl⟩ (.cons ⟨gt3_PREFIXES, rfl⟩ (.cons ⟨gt4_PREFIXES, rfl⟩ (.cons ⟨gt5_PREFIXES, rfl⟩ (.cons ⟨gt6_PREFIXES, rfl⟩ (.cons ⟨gt7_PREFIXES, rfl⟩ .nil)))))))),
    g_RESERVED := glT_mk (PySem.W.mg_of X G gn_RESERVED) gl_RESERVED (Nat.le_of_ble_eq_true rfl) (.cons ⟨gt0_RESERVED, rfl⟩ (.cons ⟨gt1_RESERVED, rfl⟩ (.cons ⟨gt2_RESERVED, rfl⟩ (.cons ⟨gt3_RESERVED, rfl⟩ (.cons ⟨gt4_RESERVED, rfl⟩ (.cons ⟨gt5_RESERVED, rfl⟩ (.cons ⟨gt6_RESERVED, rfl⟩ (.cons ⟨gt7_RESERVED, rfl⟩ (.cons ⟨gt8_RESERVED, rfl⟩ (.cons ⟨gt9_RESERVED, rfl⟩ (.cons ⟨gt10_RESERVED, rfl⟩ (.cons ⟨gt11_RESERVED, rfl⟩ (.cons ⟨gt12_RESERVED, rfl⟩ (.cons ⟨gt13_RESERVED, rfl⟩ (.cons ⟨gt14_RESERVED, rfl⟩ (.cons ⟨gt15_RESERVED, rfl⟩ (.cons ⟨gt16_RESERVED, rfl⟩ (.cons ⟨gt17_RESERVED, rfl⟩ (.cons ⟨gt18_RESERVED, rfl⟩ (.cons ⟨gt19_RESERVED, rfl⟩ (.cons ⟨gt20_RESERVED, rfl⟩ (.cons ⟨gt21_RESERVED, rfl⟩ (.cons ⟨gt22_RESERVED, rfl⟩ (.cons ⟨gt23_RESERVED, rfl⟩ (.cons ⟨gt24_RESERVED, rfl⟩ (.cons ⟨gt25_RESERVED, rfl⟩ (.cons ⟨gt26_RESERVED, rfl⟩ .nil))))))))))))))))))))))))))),
    g_SIGNS := glT_mk (PySem.W.mg_of X G gn_SIGNS) gl_SIGNS (Nat.le_of_ble_eq_true rfl) (.cons ⟨gt0_SIGNS, rfl⟩ (.cons ⟨gt1_SIGNS, rfl⟩ (.cons ⟨gt2_SIGNS, rfl⟩ (.cons ⟨gt3_SIGNS, rfl⟩ (.cons ⟨gt4_SIGNS, rfl⟩ (.cons ⟨gt5_SIGNS, rfl⟩ (.cons ⟨gt6_SIGNS, rfl⟩ (.cons ⟨gt7_SIGNS, rfl⟩ (.cons ⟨gt8_SIGNS, rfl⟩ (.cons ⟨gt9_SIGNS, rfl⟩ (.cons ⟨gt10_SIGNS, rfl⟩ (.cons ⟨gt11_SIGNS, rfl⟩ (.cons ⟨gt12_SIGNS, rfl⟩ (.cons ⟨gt13_SIGNS, rfl⟩ (.cons ⟨gt14_SIGNS, rfl⟩ (.cons ⟨gt15_SIGNS, rfl⟩ (.cons ⟨gt16_SIGNS, rfl⟩ (.cons ⟨gt17_SIGNS, rfl⟩ (.cons ⟨gt18_SIGNS, rfl⟩ (.cons ⟨gt19_SIGNS, rfl⟩ (.cons ⟨gt20_SIGNS, rfl⟩ (.cons ⟨gt21_SIGNS, rfl⟩ .nil)))))))))))))))))))))),
    g_TIMED := glT_mk (PySem.W.mg_of X G gn_TIMED) gl_TIMED (Nat.le_of_ble_eq_true rfl) (.cons ⟨gt0_TIMED, rfl⟩ (.cons ⟨gt1_TIMED, rfl⟩ (.cons ⟨gt2_TIMED, rfl⟩ (.cons ⟨gt3_TIMED, rfl⟩ .nil)))),
    z_bool := PySem.W.mg_none_of X G z_bool,
    z_int := PySem.W.mg_none_of X G z_int,
    z_isinstance := PySem.W.mg_none_of X G z_isinstance,
    z_len := PySem.W.mg_none_of X G z_len,
    z_list := PySem.W.mg_none_of X G z_list,
    z_max := PySem.W.mg_none_of X G z_max,
    z_range := PySem.W.mg_none_of X G z_range,
    z_str := PySem.W.mg_none_of X G z_str,
    z_tuple := PySem.W.mg_none_of X G z_tuple }
  refine ⟨PySem.W.fnOf "law" "law" (defArgs (topS 49)) (defBody (topS 49)) (defScope (topS 49)) .none kV27 dc27 pm27 an27 cd27 ct27, fun s v => .of_eq rfl, fun base _ _ => ?_⟩
  exact law_weak (ok_law (P := l.prog) (w := w) (base := base) T) LT
end My

namespace Pf
open PySem L2
def stayO (o : Option Out) : Option Out := o.bind fun o => match o with | .nx e => some (.nx e) | .bk e => some (.bk e) | .ct e => some (.ct e) | .rt _ => none
theorem r_stay {f : SF} {env : List D} : sStay f env = stayO (f env) := rfl
theorem r_stayO {e : List D} : stayO (some (.nx e)) = some (.nx e) := rfl
def retJO (o s : Option D) : Option Out := o.bind fun d => s.bind fun s => some (.rt (mkS s d))
theorem r_retJ {j : Nat} {f : EF} {env : List D} : sRetJ j f env = retJO (f env) env[j]? := rfl
def msO (C : Addr) (m : Str) (g : List D → Option D) (s : Option D) (o : Option (List D)) : Option D := s.bind fun s => if isM C m s = true then o.bind fun ds => g (s :: ds) else none
theorem r_ms {i : Nat} {C : Addr} {m : Str} {g : List D → Option D} {fs : AF} {env : List D} : eMS i C m g fs env = msO C m g env[i]? (fs env) := rfl
def lsO (g : List D → Option D) (s : Option D) (o : Option (List D)) : Option D := s.bind fun s => o.bind fun ds => g (s :: ds)
theorem r_ls {i : Nat} {g : List D → Option D} {fs : AF} {env : List D} : eLS i g fs env = lsO g env[i]? (fs env) := rfl
def methO (C : Addr) (m : Str) (g : List D → Option D) (o : Option D) (fs : AF) (env : List D) : Option D := o.bind fun d => if isM C m d = true then (fs env).bind fun ds => g (d :: ds) else none
theorem r_meth {C : Addr} {m : Str} {g : List D → Option D} {fo : EF} {fs : AF} {env : List D} : eMeth C m g fo fs env = methO C m g (fo env) fs env := rfl
def setMO (j i : Nat) (o : Option D) (env : List D) : Option Out := o.bind fun r => (unS r).bind fun p => match unX p.2 with
  | some _ => some (.rt r)
  | none => some (.nx ((env.set j p.1).set i p.2))
theorem r_setM {j i : Nat} {f : EF} {env : List D} : sSetM j i f env = setMO j i (f env) env := rfl
def exprMO (j : Nat) (o : Option D) (env : List D) : Option Out := o.bind fun r => (unS r).bind fun p => match unX p.2 with
  | some _ => some (.rt r)
  | none => some (.nx (env.set j p.1))
theorem r_exprM {j : Nat} {f : EF} {env : List D} : sExprM j f env = exprMO j (f env) env := rfl
def asgMO (j : Nat) (g : D → List D → Option (List D)) (o : Option D) (env : List D) : Option Out := o.bind fun r => (unS r).bind fun p => match unX p.2 with
  | some _ => some (.rt r)
  | none => (g p.2 (env.set j p.1)).bind fun env' => some (.nx env')
theorem r_asgM {j : Nat} {g : D → List D → Option (List D)} {f : EF} {env : List D} : sAsgM j g f env = asgMO j g (f env) env := rfl
def ifMO (o : Option (Bool × List D)) (f g : SF) : Option Out := o.bind fun p => if p.1 = true then f p.2 else g p.2
theorem r_ifM {c : TM} {f g : SF} {env : List D} : sIfM c f g env = ifMO (c env) f g := rfl
def tMO (j : Nat) (o : Option D) (env : List D) : Option (Bool × List D) := o.bind fun r => (unS r).bind fun p => match unX p.2 with
  | some _ => none
  | none => (truth p.2).map fun b => (b, env.set j p.1)
theorem r_tM {j : Nat} {f : EF} {env : List D} : tM j f env = tMO j (f env) env := rfl
def notMO (o : Option (Bool × List D)) : Option (Bool × List D) := o.map fun p => (!p.1, p.2)
theorem r_tNotM {c : TM} {env : List D} : tNotM c env = notMO (c env) := rfl
def hereO (j : Nat) (o : Option D) (fs : AF) (env : List D) : Option (D × List D) := o.bind fun r => (unS r).bind fun p => match unX p.2 with
  | some _ => none
  | none => (fs (env.set j p.1)).bind fun ds => some (p.1, p.2 :: ds)
theorem r_here {j : Nat} {f : EF} {fs : AF} {env : List D} : aHereM j f fs env = hereO j (f env) fs env := rfl
def consMO (o : Option D) (p : Option (D × List D)) : Option (D × List D) := o.bind fun d => p.bind fun p => some (p.1, d :: p.2)
theorem r_consM {f : EF} {fs : AM} {env : List D} : aConsM f fs env = consMO (f env) (fs env) := rfl
def tupMO (o : Option (D × List D)) : Option D := o.bind fun p => if p.2.length ≤ 16777216 then some (mkS p.1 (.tuple p.2)) else none
theorem r_tupM {fs : AM} {env : List D} : eTupM fs env = tupMO (fs env) := rfl
def inGO (neg : Bool) (ds : List D) (o : Option D) : Option D := o.bind fun d => if flatD d = true then some (.bool (if neg then !(ds.any fun z => PyData.eqv z d) else ds.any fun z => PyData.eqv z d)) else none
theorem r_inG {neg : Bool} {ds : List D} {fa : EF} {env : List D} : eInG neg ds fa env = inGO neg ds (fa env) := rfl
theorem runS_eq {ρ m N : Nat} {b : SF} {s : D} {ds : List D} {d : D} (h : ds.length = m) (e : b ((s :: ds) ++ List.replicate (N - (m + 1)) .none) = some (.rt d)) : runS ρ m N b (s :: ds) = some d := by
  unfold runS
  rw [if_pos (by rw [List.length_cons, h]), e]
  rfl
end Pf

namespace My
open PySem L2 Pf
end My

namespace My
open PySem L2 Pf
structure Tok' where
  kd : Str
  wd : Str
  ln : Int
  co : Int
def Tok'.toD (t : Tok') : D := .tuple [.str t.kd, .str t.wd, .int t.ln, .int t.co]
def cu [PC_Cursor] (W : List Tok') (k : Nat) : D := recO PC_Cursor.C [(.str (Str.ofString "words"), .list (W.map Tok'.toD)), (.str (Str.ofString "taken"), .int (k : Int))]
section
variable [PC_Cursor] {W : List Tok'} {k : Nat} {t : Tok'}
theorem fld_w : pFld PC_Cursor.C (Str.ofString "words") (cu W k) = some (.list (W.map Tok'.toD)) := by
  show (if _ then _ else _) = _
  rw [if_pos rfl]
  rfl
theorem fld_t : pFld PC_Cursor.C (Str.ofString "taken") (cu W k) = some (.int (k : Int)) := by
  show (if _ then _ else _) = _
  rw [if_pos rfl]
  show (if (Str.ofString "taken" : Str) = Str.ofString "words" then _ else _) = _
  rw [if_neg (by decide)]
  show (if _ then _ else _) = _
  rw [if_pos rfl]
theorem isM_cu {m : Str} (h1 : m ≠ Str.ofString "words") (h2 : m ≠ Str.ofString "taken") : isM PC_Cursor.C m (cu W k) = true := by
  show (decide (_ = _) && (getF m _).isNone) = true
  rw [decide_eq_true rfl, Bool.true_and]
  show (if m = _ then _ else if m = _ then _ else _ : Option D).isNone = true
  rw [if_neg h1, if_neg h2]
  rfl
theorem ix_nat {ds : List D} {k : Nat} {d : D} (h : ds[k]? = some d) : pIx (.list ds) (.int (k : Int)) = some d := by
  have hl : k < ds.length := (List.getElem?_eq_some_iff.mp h).1
  show atI ds (k : Int) = _
  unfold atI
  rw [show ixN ds.length (k : Int) = some k by unfold ixN; rw [if_pos (by omega), if_pos (by omega)]; rfl]
  exact h
theorem ix_tok (h : W[k]? = some t) : pIx (.list (W.map Tok'.toD)) (.int (k : Int)) = some t.toD := ix_nat (by rw [List.getElem?_map, h]; rfl)
theorem kind_eq (h : W[k]? = some t) : F_Cursor_kind_here [cu W k] = some (.str t.kd) := by
  refine runF_rt rfl ?_
  show B_Cursor_kind_here [cu W k] = _
  unfold B_Cursor_kind_here
  rw [r_ret, r_e2, r_e2, r_e1, r_e1, r_V]
  show retO (b2 pIx (b2 pIx (pFld _ _ (cu W k)) (pFld _ _ (cu W k))) (some (.int 0))) = _
  rw [fld_w, fld_t, r_b2, ix_tok h]
  rfl
theorem word_eq (h : W[k]? = some t) : F_Cursor_word_here [cu W k] = some (.str t.wd) := by
  refine runF_rt rfl ?_
  show B_Cursor_word_here [cu W k] = _
  unfold B_Cursor_word_here
  rw [r_ret, r_e2, r_e2, r_e1, r_e1, r_V]
  show retO (b2 pIx (b2 pIx (pFld _ _ (cu W k)) (pFld _ _ (cu W k))) (some (.int 1))) = _
  rw [fld_w, fld_t, r_b2, ix_tok h]
  rfl
theorem wh {i : Nat} {env : List D} (he : env[i]? = some (cu W k)) (h : W[k]? = some t) : eMeth PC_Cursor.C (Str.ofString "word_here") (flatF F_Cursor_word_here) (eV i) aN env = some (.str t.wd) := by
  rw [r_meth, r_V, he]
  show (if _ then _ else _) = _
  rw [if_pos (isM_cu (by decide) (by decide))]
  show flatF F_Cursor_word_here [cu W k] = _
  unfold flatF
  rw [word_eq h]
  rfl
theorem kh {i : Nat} {env : List D} (he : env[i]? = some (cu W k)) (h : W[k]? = some t) : eMeth PC_Cursor.C (Str.ofString "kind_here") (flatF F_Cursor_kind_here) (eV i) aN env = some (.str t.kd) := by
  rw [r_meth, r_V, he]
  show (if _ then _ else _) = _
  rw [if_pos (isM_cu (by decide) (by decide))]
  show flatF F_Cursor_kind_here [cu W k] = _
  unfold flatF
  rw [kind_eq h]
  rfl
theorem ms_cu {i : Nat} {m : Str} {g : List D → Option D} {fs : AF} {env : List D} {ds : List D} (he : env[i]? = some (cu W k)) (hf : fs env = some ds) (h1 : m ≠ Str.ofString "words" := by decide) (h2 : m ≠ Str.ofString "taken" := by decide) : eMS i PC_Cursor.C m g fs env = g (cu W k :: ds) := by
  rw [r_ms, he, hf]
  show (if _ then _ else _) = _
  rw [if_pos (isM_cu h1 h2)]
  rfl
theorem beq_dec {α : Type} [DecidableEq α] {a b : α} : (a == b) = decide (a = b) := by
  rw [Bool.eq_iff_iff]
  simp
theorem aug_cu {env : List D} (he : env[0]? = some (cu W k)) : sAugF 0 PC_Cursor.C (Str.ofString "taken") 1 env = some (.nx (env.set 0 (cu W (k + 1)))) := by
  unfold sAugF
  rw [he, Option.bind_some]
  show (if _ then _ else _) = _
  rw [if_pos ⟨rfl, by show 2 < 900; decide⟩]
  rfl
theorem take_eq (h : W[k]? = some t) : F_Cursor_take [cu W k] = some (mkS (cu W (k + 1)) (.str t.wd)) := by
  refine runS_eq rfl ?_
  show B_Cursor_take [cu W k, .none] = _
  unfold B_Cursor_take
  rw [r_seq, r_stay, r_set, wh rfl h, r_setO, r_stayO, r_nx, r_seq, aug_cu rfl, r_nx]
  rfl
theorem pNe_strs {a b : Str} : pNe (.str a) (.str b) = some (.bool (!decide (a = b))) := by
  rw [pNe_str, beq_dec]
theorem pEq_strs {a b : Str} : pEq (.str a) (.str b) = some (.bool (decide (a = b))) := by
  rw [pEq_str, beq_dec]
theorem takeif_eq {w : Str} (h : W[k]? = some t) : F_Cursor_take_if [cu W k, .str w] = some (if t.wd = w then mkS (cu W (k + 1)) (.bool true) else mkS (cu W k) (.bool false)) := by
  refine runS_eq rfl ?_
  show B_Cursor_take_if [cu W k, .str w] = _
  unfold B_Cursor_take_if
  have hc : tV (e2 pNe (eMeth PC_Cursor.C (Str.ofString "word_here") (flatF F_Cursor_word_here) (eV 0) aN) (eV 1)) [cu W k, .str w] = some (!decide (t.wd = w)) := tV_ok (e2_ok (wh rfl h) rfl pNe_strs)
  by_cases c : t.wd = w
  · rw [decide_eq_true c] at hc
    rw [r_seq, if_ff hc, r_skip, r_nx, r_seq, aug_cu rfl, r_nx, if_pos c]
    rfl
  · rw [decide_eq_false c] at hc
    rw [r_seq, if_tt hc, if_neg c]
    rfl
theorem below_eq {d : D} {l : Int} (h : l ≠ 12) : F_level_below [d, .int l] = some (.int (l + 1)) := by
  refine runF_rt rfl ?_
  show B_level_below [d, .int l] = _
  unfold B_level_below
  have hc : tV (e2 pEq (eV 1) (eC (.int 12))) [d, .int l] = some (decide (l = 12)) := tV_ok (e2_ok rfl rfl (by rw [pEq_int, beq_dec]))
  rw [decide_eq_false h] at hc
  rw [r_seq, if_ff hc, r_skip, r_nx]
  rfl
theorem bel {i j : Nat} {env : List D} {d : D} {l : Int} (h1 : env[i]? = some d) (h2 : env[j]? = some (.int l)) (h : l ≠ 12) : eL (flatF F_level_below) (aC (eV i) (aC (eV j) aN)) env = some (.int (l + 1)) := by
  rw [r_eL, r_aC, r_aC, r_aN, r_V, r_V, h1, h2]
  show flatF F_level_below [d, .int l] = _
  unfold flatF
  rw [below_eq h]
  rfl
end
end My

namespace My
open PySem L2 Pf
section
variable [PC_Cursor]
def Pr (W : List Tok') (n i k : Nat) (lv : Int) (k' : Nat) (t : D) (h : Int) : Prop := RR n i [cu W k, .int lv] = some (mkS (cu W k') (.tuple [t, .int h]))
variable {W : List Tok'} {n k k1 k2 k' : Nat} {lv h h1 h2 : Int} {t t1 t2 : D} {w : Tok'}
theorem ls_cu {g : List D → Option D} {fs : AF} {env : List D} {ds : List D} (he : env[0]? = some (cu W k)) (hf : fs env = some ds) : eLS 0 g fs env = g (cu W k :: ds) := by
  rw [r_ls, he, hf]
  rfl
theorem asg_cu {i j : Nat} {g : List D → Option D} {fs : AF} {env : List D} {ds : List D} (he : env[0]? = some (cu W k)) (hf : fs env = some ds) (hg : g (cu W k :: ds) = some (mkS (cu W k') (.tuple [t, .int h]))) :
    sAsgM 0 (gTpl (gMore (gN i) (gMore (gN j) gEmp)) 2) (eLS 0 g fs) env = some (.nx (((env.set 0 (cu W k')).set i t).set j (.int h))) := by
  rw [r_asgM, ls_cu he hf, hg]
  rfl
theorem asg1 {i j a : Nat} {l : D} {g : List D → Option D} {env : List D} (he : env[0]? = some (cu W k)) (hf : env[a]? = some l) (hg : g [cu W k, l] = some (mkS (cu W k') (.tuple [t, .int h]))) :
    sAsgM 0 (gTpl (gMore (gN i) (gMore (gN j) gEmp)) 2) (eLS 0 g (aC (eV a) aN)) env = some (.nx (((env.set 0 (cu W k')).set i t).set j (.int h))) :=
  asg_cu (ds := [l]) he (by rw [r_aC, r_V, hf, r_aN]; rfl) hg
theorem tk_expr {env : List D} (he : env[0]? = some (cu W k)) (hw : W[k]? = some w) : sExprM 0 (eMS 0 PC_Cursor.C (Str.ofString "take") F_Cursor_take aN) env = some (.nx (env.set 0 (cu W (k + 1)))) := by
  rw [r_exprM, ms_cu (fs := aN) he r_aN, take_eq hw]
  rfl
theorem tk_set {i : Nat} {env : List D} (he : env[0]? = some (cu W k)) (hw : W[k]? = some w) : sSetM 0 i (eMS 0 PC_Cursor.C (Str.ofString "take") F_Cursor_take aN) env = some (.nx ((env.set 0 (cu W (k + 1))).set i (.str w.wd))) := by
  rw [r_setM, ms_cu (fs := aN) he r_aN, take_eq hw]
  rfl
theorem max2 {a b : Int} : maxD [.int a, .int b] = some (.int (max a b)) := by
  show some (PyData.int _) = _
  congr 2
  simp only [Int.max_def]
  split <;> split <;> omega
theorem ex0 (hp : Pr W n 1 k lv k1 t h) (hw : W[k1]? = some w) (ne : w.wd ≠ Str.ofString "implies") : Pr W (n + 1) 0 k lv k1 t h := by
  unfold Pr
  show runS 0 1 7 (B_take_expression (RR n)) [cu W k, .int lv] = _
  refine runS_eq rfl ?_
  show B_take_expression (RR n) [cu W k, .int lv, .none, .none, .none, .none, .none] = _
  unfold B_take_expression
  rw [r_seq, asg1 (a := 1) (l := .int lv) (by rfl) (by rfl) hp, r_nx, r_seq]
  have hc : tV (e2 pNe (eMeth PC_Cursor.C (Str.ofString "word_here") (flatF F_Cursor_word_here) (eV 0) aN) (eC (.str (Str.ofString "implies")))) [cu W k1, .int lv, .none, t, .int h, .none, .none] = some (!decide (w.wd = Str.ofString "implies")) := tV_ok (e2_ok (wh rfl hw) rfl pNe_strs)
  rw [decide_eq_false ne] at hc
  rw [show ((([cu W k, PyData.int lv, PyData.none, PyData.none, PyData.none, PyData.none, PyData.none] : List D).set 0 (cu W k1)).set 3 t).set 4 (.int h) = [cu W k1, .int lv, .none, t, .int h, .none, .none] from rfl, if_tt hc]
  rfl
theorem ex1 (hp : Pr W n 1 k lv k1 t h) (hw : W[k1]? = some w) (e : w.wd = Str.ofString "implies") (hl : lv ≠ 12) (hq : Pr W n 0 (k1 + 1) (lv + 1) k2 t2 h2) : Pr W (n + 1) 0 k lv k2 (.tuple [.str (Str.ofString "implies"), t, t2]) (1 + max h h2) := by
  unfold Pr
  show runS 0 1 7 (B_take_expression (RR n)) [cu W k, .int lv] = _
  refine runS_eq rfl ?_
  show B_take_expression (RR n) [cu W k, .int lv, .none, .none, .none, .none, .none] = _
  unfold B_take_expression
  rw [r_seq, asg1 (a := 1) (l := .int lv) (by rfl) (by rfl) hp, r_nx, r_seq]
  have hc : tV (e2 pNe (eMeth PC_Cursor.C (Str.ofString "word_here") (flatF F_Cursor_word_here) (eV 0) aN) (eC (.str (Str.ofString "implies")))) [cu W k1, .int lv, .none, t, .int h, .none, .none] = some (!decide (w.wd = Str.ofString "implies")) := tV_ok (e2_ok (wh rfl hw) rfl pNe_strs)
  rw [decide_eq_true e] at hc
  rw [show ((([cu W k, PyData.int lv, PyData.none, PyData.none, PyData.none, PyData.none, PyData.none] : List D).set 0 (cu W k1)).set 3 t).set 4 (.int h) = [cu W k1, .int lv, .none, t, .int h, .none, .none] from rfl, if_ff hc, r_skip, r_nx,
    r_seq, r_stay, r_set, bel (i := 0) (j := 1) (d := cu W k1) (l := lv) rfl rfl hl, r_setO, r_stayO, r_nx, r_seq, tk_expr (k := k1) rfl hw, r_nx, r_seq, asg1 (a := 2) (l := .int (lv + 1)) (by rfl) (by rfl) hq, r_nx, r_retJ]
  rw [r_tup, r_aC, r_tup, r_aC, r_C, r_aC, r_V, r_aC, r_V, r_aN, r_aC, r_aN, r_e2, r_C, r_eL, r_aC, r_aC, r_V, r_V, r_aN]
  show retJO (tupO (c2 (tupO (some [_, t, t2])) (c2 (b2 pAdd (some (.int 1)) (maxD [.int h, .int h2])) (some [])))) (some (cu W k2)) = _
  rw [max2, r_tup3]
  rfl
theorem eqv_str {a b : Str} : PyData.eqv (.str a) (.str b) = decide (a = b) := by
  rw [Bool.eq_iff_iff]
  simp [PyData.eqv]
theorem any_strs {a : Str} : ∀ {S : List Str}, ((S.map PyData.str).any fun z => PyData.eqv z (.str a)) = decide (a ∈ S)
  | [] => rfl
  | b :: S => by
    rw [List.map_cons, List.any_cons, any_strs, eqv_str, Bool.eq_iff_iff]
    simp only [Bool.or_eq_true, decide_eq_true_eq, List.mem_cons]
    exact ⟨fun h => h.imp Eq.symm id, fun h => h.imp Eq.symm id⟩
theorem inG_strs {neg : Bool} {S : List Str} {fa : EF} {env : List D} {a : Str} (h : fa env = some (.str a)) : eInG neg (S.map .str) fa env = some (.bool (if neg = true then !decide (a ∈ S) else decide (a ∈ S))) := by
  rw [r_inG, h]
  unfold inGO
  rw [Option.bind_some, if_pos (show flatD (.str a) = true from rfl), any_strs]
theorem flat_strs : ∀ S : List Str, (S.map PyData.str).all flatD = true
  | [] => rfl
  | a :: S => by rw [List.map_cons, List.all_cons, flat_strs S]; rfl
theorem tin_strs {neg : Bool} {S : List Str} {fa : EF} {env : List D} {a : Str} (h : fa env = some (.str a)) : tV (eInG neg (S.map .str) fa) env = some (if neg = true then !decide (a ∈ S) else decide (a ∈ S)) := by
  show (eInG neg (S.map .str) fa env).bind bo = _
  rw [inG_strs h]
  rfl
theorem pIn_strs {S : List Str} {a : Str} : pIn (.str a) (.tuple (S.map .str)) = some (.bool (decide (a ∈ S))) := by
  show (inD (.str a) (.tuple (S.map .str))).map PyData.bool = _
  unfold inD
  simp only []
  rw [if_pos (by rw [flat_strs]; rfl), any_strs]
  rfl
def LJ (o : Nat) (R : Nat → List D → Option D) : SF :=
  (sSeq (sSetM 0 6 (eMS 0 PC_Cursor.C (Str.ofString "take") F_Cursor_take aN))
  (sSeq (sAsgM 0 (gTpl (gMore (gN 7) (gMore (gN 8) gEmp)) 2) (eLS 0 (R o) (aC (eV 1) aN)))
  (sSeq (sStay (sSet 4 (eIf (tV (eInG false k_CALCULATIONS (eV 6))) (eTup (aC (eC (.str (Str.ofString "sum"))) (aC (eV 6) (aC (eV 4) (aC (eV 7) aN))))) (eTup (aC (eV 6) (aC (eV 4) (aC (eV 7) aN)))))))
  (sStay (sSet 5 (e2 pAdd (eC (.int 1)) (eL maxD (aC (eV 5) (aC (eV 8) aN)))))))))
noncomputable def BJ (o : Nat) (R : Nat → List D → Option D) : SF :=
  (sSeq (sAsgM 0 (gTpl (gMore (gN 4) (gMore (gN 5) gEmp)) 2) (eLS 0 (R o) (aC (eV 1) aN)))
  (sSeq (sWhile (tV (e2 pIn (eMeth PC_Cursor.C (Str.ofString "word_here") (flatF F_Cursor_word_here) (eV 0) aN) (eV 2))) (LJ o R))
  (sRetJ 0 (eTup (aC (eV 4) (aC (eV 5) aN))))))
def calcS : List Str := ["+", "-", "*"]
def comb (w : Str) (t t1 : D) : D := if w ∈ calcS then .tuple [.str (Str.ofString "sum"), .str w, t, t1] else .tuple [.str w, t, t1]
inductive Ch (W : List Tok') (n o : Nat) (S : List Str) (lv : Int) : Nat → D → Int → Nat → D → Int → Prop
  | nil {k : Nat} {t : D} {h : Int} : Ch W n o S lv k t h k t h
  | step {k k1 k' : Nat} {w : Tok'} {t t1 t' : D} {h h1 h' : Int} : W[k]? = some w → w.wd ∈ S → Pr W n o (k + 1) lv k1 t1 h1 → Ch W n o S lv k1 (comb w.wd t t1) (1 + max h h1) k' t' h' → Ch W n o S lv k t h k' t' h'
theorem Ch.snoc {o : Nat} {S : List Str} {k0 : Nat} {t0 : D} {h0 : Int} (c : Ch W n o S lv k0 t0 h0 k t h) (hw : W[k]? = some w) (hs : w.wd ∈ S) (hp : Pr W n o (k + 1) lv k1 t1 h1) : Ch W n o S lv k0 t0 h0 k1 (comb w.wd t t1) (1 + max h h1) := by
  induction c with
  | nil => exact .step hw hs hp .nil
  | step a b c d ih => exact .step a b c (ih hw hp)
theorem lj_eq {o : Nat} {S : D} {a b c d : D} (hw : W[k]? = some w) (hp : Pr W n o (k + 1) lv k1 t1 h1) :
    LJ o (RR n) [cu W k, .int lv, S, d, t, .int h, a, b, c] = some (.nx [cu W k1, .int lv, S, d, comb w.wd t t1, .int (1 + max h h1), .str w.wd, t1, .int h1]) := by
  unfold LJ
  rw [r_seq, tk_set (k := k) (by rfl) hw, r_nx, r_seq, asg1 (a := 1) (l := .int lv) (by rfl) (by rfl) hp, r_nx, r_seq]
  have e1 : eIf (tV (eInG false k_CALCULATIONS (eV 6))) (eTup (aC (eC (.str (Str.ofString "sum"))) (aC (eV 6) (aC (eV 4) (aC (eV 7) aN))))) (eTup (aC (eV 6) (aC (eV 4) (aC (eV 7) aN)))) [cu W k1, .int lv, S, d, t, .int h, .str w.wd, t1, .int h1] = some (comb w.wd t t1) := by
    have ht : tV (eInG false k_CALCULATIONS (eV 6)) [cu W k1, .int lv, S, d, t, .int h, .str w.wd, t1, .int h1] = some (decide (w.wd ∈ calcS)) := tin_strs (S := calcS) rfl
    unfold eIf comb
    rw [ht, Option.bind_some]
    by_cases c : w.wd ∈ calcS
    · rw [decide_eq_true c, if_pos rfl, if_pos c]
      rw [r_tup, r_aC, r_aC, r_aC, r_aC, r_aN]
      exact r_tup4
    · rw [decide_eq_false c, if_neg (by decide), if_neg c]
      rw [r_tup, r_aC, r_aC, r_aC, r_aN]
      exact r_tup3
  show thenO (stayO (setO 4 (eIf _ _ _ [cu W k1, .int lv, S, d, t, .int h, .str w.wd, t1, .int h1]) [cu W k1, .int lv, S, d, t, .int h, .str w.wd, t1, .int h1])) _ = _
  rw [e1, r_setO, r_stayO, r_nx, r_stay, r_set, r_e2, r_C, r_eL, r_aC, r_aC, r_V, r_V, r_aN]
  show stayO (setO 5 (b2 pAdd (some (.int 1)) (maxD [.int h, .int h1])) _) = _
  rw [max2]
  rfl
theorem ch_run {o : Nat} {S : List Str} {k0 : Nat} {t0 : D} {h0 : Int} (ch : Ch W n o S lv k0 t0 h0 k' t h) {w' : Tok'} (hw' : W[k']? = some w') (hs' : w'.wd ∉ S) (d : D) : ∀ (a b c : D), ∃ m a' b' c', sWh (tV (e2 pIn (eMeth PC_Cursor.C (Str.ofString "word_here") (flatF F_Cursor_word_here) (eV 0) aN) (eV 2))) (LJ o (RR n)) m [cu W k0, .int lv, .tuple (S.map .str), d, t0, .int h0, a, b, c] = some (.nx [cu W k', .int lv, .tuple (S.map .str), d, t, .int h, a', b', c']) := by
  have tst : ∀ {k : Nat} {w : Tok'} {e : List D}, W[k]? = some w → tV (e2 pIn (eMeth PC_Cursor.C (Str.ofString "word_here") (flatF F_Cursor_word_here) (eV 0) aN) (eV 2)) (cu W k :: .int lv :: .tuple (S.map .str) :: e) = some (decide (w.wd ∈ S)) := fun hw => tV_ok (e2_ok (wh rfl hw) rfl pIn_strs)
  induction ch with
  | nil =>
    intro a b c
    refine ⟨1, a, b, c, ?_⟩
    show (tV _ _).bind _ = _
    rw [tst hw', decide_eq_false hs']
    rfl
  | step hw hs hp _ ih =>
    intro a b c
    obtain ⟨m, a', b', c', e⟩ := ih hw' _ _ _
    refine ⟨m + 1, a', b', c', ?_⟩
    show (tV _ _).bind _ = _
    rw [tst hw, decide_eq_true hs, Option.bind_some, if_pos rfl, lj_eq hw hp]
    exact e
theorem jn_eq {o : Nat} {S : List Str} (hp : Pr W n o k lv k1 t1 h1) (ch : Ch W n o S lv k1 t1 h1 k' t h) (hw : W[k']? = some w) (hs : w.wd ∉ S) : runS 0 2 9 (BJ o (RR n)) [cu W k, .int lv, .tuple (S.map .str)] = some (mkS (cu W k') (.tuple [t, .int h])) := by
  refine runS_eq rfl ?_
  show BJ o (RR n) [cu W k, .int lv, .tuple (S.map .str), .none, .none, .none, .none, .none, .none] = _
  unfold BJ
  obtain ⟨m, a', b', c', e⟩ := ch_run ch hw hs .none .none .none .none
  rw [r_seq, asg1 (a := 1) (l := .int lv) (by rfl) (by rfl) hp, r_nx, r_seq]
  show thenO (sWhile _ _ [cu W k1, .int lv, .tuple (S.map .str), .none, t1, .int h1, .none, .none, .none]) _ = _
  rw [sWhile_eq e, r_nx, r_retJ, r_tup, r_aC, r_aC, r_V, r_V, r_aN]
  show retJO (tupO (some [t, .int h])) (some (cu W k')) = _
  rw [r_tup2]
  rfl
end
end My

namespace My
open PySem L2 Pf
section
variable [PC_Cursor] {W : List Tok'} {n k k1 k2 k' : Nat} {lv h h1 h2 : Int} {t t1 t2 : D} {w w2 : Tok'}
def Jn (i j o : Nat) (S : List Str) : Prop := ∀ (W : List Tok') (n k : Nat) (lv : Int) (k1 : Nat) (t1 : D) (h1 : Int) (k' : Nat) (t : D) (h : Int) (w : Tok'), Pr W n o k lv k1 t1 h1 → Ch W n o S lv k1 t1 h1 k' t h → W[k']? = some w → w.wd ∉ S → Pr W (n + 2) i k lv k' t h
theorem jn_or : Jn 1 11 2 ["or"] := fun W n k lv k1 t1 h1 k' t h w hp ch hw hs => by
  unfold Pr
  show runS 0 1 2 (B_take_choice (RR (n + 1))) [cu W k, .int lv] = _
  refine runS_eq rfl ?_
  show retO (RR (n + 1) 11 [cu W k, .int lv, .tuple [.str "or"]]) = _
  rw [show RR (n + 1) 11 [cu W k, .int lv, .tuple [.str "or"]] = some (mkS (cu W k') (.tuple [t, .int h])) from jn_eq (S := ["or"]) hp ch hw hs]
  rfl
theorem jn_and : Jn 2 12 3 ["and"] := fun W n k lv k1 t1 h1 k' t h w hp ch hw hs => by
  unfold Pr
  show runS 0 1 2 (B_take_union (RR (n + 1))) [cu W k, .int lv] = _
  refine runS_eq rfl ?_
  show retO (RR (n + 1) 12 [cu W k, .int lv, .tuple [.str "and"]]) = _
  rw [show RR (n + 1) 12 [cu W k, .int lv, .tuple [.str "and"]] = some (mkS (cu W k') (.tuple [t, .int h])) from jn_eq (S := ["and"]) hp ch hw hs]
  rfl
theorem jn_since : Jn 3 13 4 ["since"] := fun W n k lv k1 t1 h1 k' t h w hp ch hw hs => by
  unfold Pr
  show runS 0 1 2 (B_take_past (RR (n + 1))) [cu W k, .int lv] = _
  refine runS_eq rfl ?_
  show retO (RR (n + 1) 13 [cu W k, .int lv, .tuple [.str "since"]]) = _
  rw [show RR (n + 1) 13 [cu W k, .int lv, .tuple [.str "since"]] = some (mkS (cu W k') (.tuple [t, .int h])) from jn_eq (S := ["since"]) hp ch hw hs]
  rfl
theorem jn_sum : Jn 6 14 7 ["+", "-"] := fun W n k lv k1 t1 h1 k' t h w hp ch hw hs => by
  unfold Pr
  show runS 0 1 2 (B_take_sum (RR (n + 1))) [cu W k, .int lv] = _
  refine runS_eq rfl ?_
  show retO (RR (n + 1) 14 [cu W k, .int lv, .tuple [.str "+", .str "-"]]) = _
  rw [show RR (n + 1) 14 [cu W k, .int lv, .tuple [.str "+", .str "-"]] = some (mkS (cu W k') (.tuple [t, .int h])) from jn_eq (S := ["+", "-"]) hp ch hw hs]
  rfl
theorem jn_mul : Jn 7 15 8 ["*"] := fun W n k lv k1 t1 h1 k' t h w hp ch hw hs => by
  unfold Pr
  show runS 0 1 2 (B_take_product (RR (n + 1))) [cu W k, .int lv] = _
  refine runS_eq rfl ?_
  show retO (RR (n + 1) 15 [cu W k, .int lv, .tuple [.str "*"]]) = _
  rw [show RR (n + 1) 15 [cu W k, .int lv, .tuple [.str "*"]] = some (mkS (cu W k') (.tuple [t, .int h])) from jn_eq (S := ["*"]) hp ch hw hs]
  rfl
def cmpS : List Str := ["<", "<=", "=", "!=", ">=", ">"]
theorem cm_head (hp : Pr W n 6 k lv k1 t h) (hw : W[k1]? = some w) : tV (eInG true k_COMPARISONS (eMeth PC_Cursor.C (Str.ofString "word_here") (flatF F_Cursor_word_here) (eV 0) aN)) [cu W k1, .int lv, .none, t, .int h, .none, .none] = some (!decide (w.wd ∈ cmpS)) :=
  tin_strs (neg := true) (S := cmpS) (wh rfl hw)
theorem cm0 (hp : Pr W n 6 k lv k1 t h) (hw : W[k1]? = some w) (ne : w.wd ∉ cmpS) : Pr W (n + 1) 5 k lv k1 t h := by
  unfold Pr
  show runS 0 1 7 (B_take_comparison (RR n)) [cu W k, .int lv] = _
  refine runS_eq rfl ?_
  show B_take_comparison (RR n) [cu W k, .int lv, .none, .none, .none, .none, .none] = _
  unfold B_take_comparison
  have hc := cm_head hp hw
  rw [decide_eq_false ne] at hc
  rw [r_seq, asg1 (a := 1) (l := .int lv) (by rfl) (by rfl) hp, r_nx, r_seq, show ((([cu W k, PyData.int lv, PyData.none, PyData.none, PyData.none, PyData.none, PyData.none] : List D).set 0 (cu W k1)).set 3 t).set 4 (.int h) = [cu W k1, .int lv, .none, t, .int h, .none, .none] from rfl, if_tt hc]
  rfl
theorem cm1 (hp : Pr W n 6 k lv k1 t h) (hw : W[k1]? = some w) (e : w.wd ∈ cmpS) (hq : Pr W n 6 (k1 + 1) lv k2 t2 h2) : Pr W (n + 1) 5 k lv k2 (.tuple [.str "compare", .str w.wd, t, t2]) (1 + max h h2) := by
  unfold Pr
  show runS 0 1 7 (B_take_comparison (RR n)) [cu W k, .int lv] = _
  refine runS_eq rfl ?_
  show B_take_comparison (RR n) [cu W k, .int lv, .none, .none, .none, .none, .none] = _
  unfold B_take_comparison
  have hc := cm_head hp hw
  rw [decide_eq_true e] at hc
  rw [r_seq, asg1 (a := 1) (l := .int lv) (by rfl) (by rfl) hp, r_nx, r_seq, show ((([cu W k, PyData.int lv, PyData.none, PyData.none, PyData.none, PyData.none, PyData.none] : List D).set 0 (cu W k1)).set 3 t).set 4 (.int h) = [cu W k1, .int lv, .none, t, .int h, .none, .none] from rfl, if_ff hc, r_skip, r_nx,
    r_seq, tk_set (k := k1) (by rfl) hw, r_nx, r_seq, asg1 (a := 1) (l := .int lv) (by rfl) (by rfl) hq, r_nx, r_retJ]
  rw [r_tup, r_aC, r_tup, r_aC, r_C, r_aC, r_V, r_aC, r_V, r_aC, r_V, r_aN, r_aC, r_aN, r_e2, r_C, r_eL, r_aC, r_aC, r_V, r_V, r_aN]
  show retJO (tupO (c2 (tupO (some [_, .str w.wd, t, t2])) (c2 (b2 pAdd (some (.int 1)) (maxD [.int h, .int h2])) (some [])))) (some (cu W k2)) = _
  rw [max2, r_tup4]
  rfl
def preS : List Str := ["not", "next", "all", "before", "can", "must", "once", "always"]
def timS : List Str := ["can", "must", "once", "always"]
theorem pf0 (hw : W[k]? = some w) (ne : w.wd ∉ preS) (hp : Pr W n 5 k lv k1 t h) : Pr W (n + 1) 4 k lv k1 t h := by
  unfold Pr
  show runS 0 1 7 (B_take_prefix (RR n)) [cu W k, .int lv] = _
  refine runS_eq rfl ?_
  show B_take_prefix (RR n) [cu W k, .int lv, .none, .none, .none, .none, .none] = _
  unfold B_take_prefix
  have hc : tV (eInG true k_PREFIXES (eMeth PC_Cursor.C (Str.ofString "word_here") (flatF F_Cursor_word_here) (eV 0) aN)) [cu W k, .int lv, .none, .none, .none, .none, .none] = some (!decide (w.wd ∈ preS)) := tin_strs (neg := true) (S := preS) (wh rfl hw)
  rw [decide_eq_false ne] at hc
  rw [r_seq, if_tt hc, r_ret]
  show thenO (retO (RR n 5 [cu W k, .int lv])) _ = _
  rw [show RR n 5 [cu W k, .int lv] = _ from hp]
  rfl
theorem pf_run (hw : W[k]? = some w) (hin : w.wd ∈ preS) (hal : w.wd ≠ Str.ofString "all") (hl : lv ≠ 12) (lim : w.wd ∈ timS → ∃ w2 : Tok', W[k + 1]? = some w2 ∧ w2.wd ≠ Str.ofString "[") (hp : Pr W n 4 (k + 1) (lv + 1) k1 t h) :
    Pr W (n + 1) 4 k lv k1 (if w.wd ∈ timS then .tuple [.str w.wd, .none, t] else .tuple [.str w.wd, t]) (h + 1) := by
  unfold Pr
  show runS 0 1 7 (B_take_prefix (RR n)) [cu W k, .int lv] = _
  refine runS_eq rfl ?_
  show B_take_prefix (RR n) [cu W k, .int lv, .none, .none, .none, .none, .none] = _
  unfold B_take_prefix
  have hc : tV (eInG true k_PREFIXES (eMeth PC_Cursor.C (Str.ofString "word_here") (flatF F_Cursor_word_here) (eV 0) aN)) [cu W k, .int lv, .none, .none, .none, .none, .none] = some (!decide (w.wd ∈ preS)) := tin_strs (neg := true) (S := preS) (wh rfl hw)
  rw [decide_eq_true hin] at hc
  have hd : tV (e2 pEq (eV 3) (eC (.str (Str.ofString "all")))) [cu W (k + 1), .int lv, .int (lv + 1), .str w.wd, .none, .none, .none] = some (decide (w.wd = Str.ofString "all")) := tV_ok (e2_ok rfl rfl pEq_strs)
  rw [decide_eq_false hal] at hd
  have ht : ∀ e : List D, tV (eInG false k_TIMED (eV 3)) (cu W (k + 1) :: .int lv :: .int (lv + 1) :: .str w.wd :: e) = some (decide (w.wd ∈ timS)) := fun e => tin_strs (neg := false) (S := timS) rfl
  have ht2 : ∀ e : List D, tV (eInG false k_TIMED (eV 3)) (cu W k1 :: .int lv :: .int (lv + 1) :: .str w.wd :: e) = some (decide (w.wd ∈ timS)) := fun e => tin_strs (neg := false) (S := timS) rfl
  have hm : sSetM 0 4 (eIf (tV (eInG false k_TIMED (eV 3))) (eLS 0 F_take_limit aN) (eOfM 0 (eC .none))) [cu W (k + 1), .int lv, .int (lv + 1), .str w.wd, .none, .none, .none] = some (.nx [cu W (k + 1), .int lv, .int (lv + 1), .str w.wd, .none, .none, .none]) := by
    rw [r_setM]
    unfold eIf
    rw [ht, Option.bind_some]
    by_cases c : w.wd ∈ timS
    · rw [decide_eq_true c, if_pos rfl]
      obtain ⟨w2, g1, g2⟩ := lim c
      have hf : F_take_limit [cu W (k + 1)] = some (mkS (cu W (k + 1)) .none) := by
        refine runS_eq rfl ?_
        show B_take_limit [cu W (k + 1), .none] = _
        unfold B_take_limit
        rw [r_seq, r_ifM, r_tNotM, r_tM, ms_cu (fs := aC (eC (.str (Str.ofString "["))) aN) (env := [cu W (k + 1), .none]) (ds := [.str (Str.ofString "[")]) rfl rfl, takeif_eq g1, if_neg g2]
        rfl
      rw [ls_cu (fs := aN) (env := [cu W (k + 1), .int lv, .int (lv + 1), .str w.wd, .none, .none, .none]) rfl r_aN, hf]
      rfl
    · rw [decide_eq_false c, if_neg (by decide)]
      rfl
  rw [r_seq, if_ff hc, r_skip, r_nx, r_seq, r_stay, r_set, bel (i := 0) (j := 1) (d := cu W k) (l := lv) (by rfl) (by rfl) hl, r_setO, r_stayO, r_nx, r_seq, tk_set (k := k) (by rfl) hw, r_nx, r_seq,
    show ((([cu W k, PyData.int lv, PyData.none, PyData.none, PyData.none, PyData.none, PyData.none] : List D).set 2 (.int (lv + 1))).set 0 (cu W (k + 1))).set 3 (.str w.wd) = [cu W (k + 1), .int lv, .int (lv + 1), .str w.wd, .none, .none, .none] from rfl, if_ff hd, r_skip, r_nx, r_seq, hm, r_nx, r_seq, asg1 (a := 2) (l := .int (lv + 1)) (by rfl) (by rfl) hp, r_nx, r_seq]
  show thenO (sIf _ _ _ [cu W k1, .int lv, .int (lv + 1), .str w.wd, .none, t, .int h]) _ = _
  by_cases c : w.wd ∈ timS
  · rw [if_tt ((ht2 _).trans (by rw [decide_eq_true c])), if_pos c]
    rfl
  · rw [if_ff ((ht2 _).trans (by rw [decide_eq_false c])), if_neg c]
    rfl
theorem ng0 (hw : W[k]? = some w) (ne : w.wd ≠ Str.ofString "-") (hp : Pr W n 9 k lv k1 t h) : Pr W (n + 1) 8 k lv k1 t h := by
  unfold Pr
  show runS 0 1 5 (B_take_negation (RR n)) [cu W k, .int lv] = _
  refine runS_eq rfl ?_
  show B_take_negation (RR n) [cu W k, .int lv, .none, .none, .none] = _
  unfold B_take_negation
  have hc : tV (e2 pNe (eMeth PC_Cursor.C (Str.ofString "word_here") (flatF F_Cursor_word_here) (eV 0) aN) (eC (.str (Str.ofString "-")))) [cu W k, .int lv, .none, .none, .none] = some (!decide (w.wd = Str.ofString "-")) := tV_ok (e2_ok (wh rfl hw) rfl pNe_strs)
  rw [decide_eq_false ne] at hc
  rw [r_seq, if_tt hc, r_ret]
  show thenO (retO (RR n 9 [cu W k, .int lv])) _ = _
  rw [show RR n 9 [cu W k, .int lv] = _ from hp]
  rfl
theorem ng1 (hw : W[k]? = some w) (e : w.wd = Str.ofString "-") (hl : lv ≠ 12) (hp : Pr W n 8 (k + 1) (lv + 1) k1 t h) : Pr W (n + 1) 8 k lv k1 (.tuple [.str "negative", t]) (h + 1) := by
  unfold Pr
  show runS 0 1 5 (B_take_negation (RR n)) [cu W k, .int lv] = _
  refine runS_eq rfl ?_
  show B_take_negation (RR n) [cu W k, .int lv, .none, .none, .none] = _
  unfold B_take_negation
  have hc : tV (e2 pNe (eMeth PC_Cursor.C (Str.ofString "word_here") (flatF F_Cursor_word_here) (eV 0) aN) (eC (.str (Str.ofString "-")))) [cu W k, .int lv, .none, .none, .none] = some (!decide (w.wd = Str.ofString "-")) := tV_ok (e2_ok (wh rfl hw) rfl pNe_strs)
  rw [decide_eq_true e] at hc
  rw [r_seq, if_ff hc, r_skip, r_nx, r_seq, r_stay, r_set, bel (i := 0) (j := 1) (d := cu W k) (l := lv) (by rfl) (by rfl) hl, r_setO, r_stayO, r_nx, r_seq, tk_expr (k := k) (by rfl) hw, r_nx, r_seq, asg1 (a := 2) (l := .int (lv + 1)) (by rfl) (by rfl) hp]
  rfl
def minS : List Str := ["min", "max"]
def resS : List Str := ["const", "part", "var", "from", "move", "when", "do", "sensor", "lossy", "define", "require", "implies", "or", "and", "since", "not", "next", "all", "can", "must", "before", "once", "always", "min", "max", "true", "false"]
theorem at_leaf (hw : W[k]? = some w) (n1 : w.wd ≠ Str.ofString "(") (n2 : w.wd ∉ minS) (hf : F_take_leaf [cu W k] = some (mkS (cu W k1) (.tuple [t1, t2]))) : Pr W (n + 1) 9 k lv k1 (.tuple [t1, t2]) 0 := by
  unfold Pr
  show runS 0 1 6 (B_take_atom (RR n)) [cu W k, .int lv] = _
  refine runS_eq rfl ?_
  show B_take_atom (RR n) [cu W k, .int lv, .none, .none, .none, .none] = _
  unfold B_take_atom
  have hc : tV (e2 pEq (eV 2) (eC (.str (Str.ofString "(")))) [cu W k, .int lv, .str w.wd, .none, .none, .none] = some (decide (w.wd = Str.ofString "(")) := tV_ok (e2_ok rfl rfl pEq_strs)
  rw [decide_eq_false n1] at hc
  have hd : tInGS k_MINIMUM_AND_MAXIMUM false (eV 2) [cu W k, .int lv, .str w.wd, .none, .none, .none] = some false := by
    show some (lookT k_MINIMUM_AND_MAXIMUM w.wd).isSome = some false
    unfold k_MINIMUM_AND_MAXIMUM lookT lookT lookT
    rw [if_neg fun e => n2 (by rw [← e]; decide), if_neg fun e => n2 (by rw [← e]; decide)]
    rfl
  rw [r_seq, r_stay, r_set, wh (by rfl) hw, r_setO, r_stayO, r_nx, r_seq, show ([cu W k, PyData.int lv, PyData.none, PyData.none, PyData.none, PyData.none] : List D).set 2 (.str w.wd) = [cu W k, .int lv, .str w.wd, .none, .none, .none] from rfl, if_ff hc, r_skip, r_nx, r_seq, if_ff hd, r_skip, r_nx, r_ret, r_tupM, r_here, ls_cu (fs := aN) (env := [cu W k, .int lv, .str w.wd, .none, .none, .none]) rfl r_aN, hf]
  rfl
theorem leaf_num {i : Int} (hw : W[k]? = some w) (hk : w.kd = Str.ofString "number") (hi : PySem.intText? w.wd = some i) (hl : w.wd.length ≤ 640) : F_take_leaf [cu W k] = some (mkS (cu W (k + 1)) (.tuple [.str "number", .int i])) := by
  refine runS_eq rfl ?_
  show B_take_leaf [cu W k, .none] = _
  unfold B_take_leaf
  have hc : tV (e2 pEq (eMeth PC_Cursor.C (Str.ofString "kind_here") (flatF F_Cursor_kind_here) (eV 0) aN) (eC (.str (Str.ofString "number")))) [cu W k, .none] = some (decide (w.kd = Str.ofString "number")) := tV_ok (e2_ok (kh rfl hw) rfl pEq_strs)
  rw [decide_eq_true hk] at hc
  have hn : F_Cursor_take_number [cu W k] = some (mkS (cu W (k + 1)) (.int i)) := by
    refine runS_eq rfl ?_
    show B_Cursor_take_number [cu W k] = _
    unfold B_Cursor_take_number
    have hc2 : tV (e2 pNe (eMeth PC_Cursor.C (Str.ofString "kind_here") (flatF F_Cursor_kind_here) (eV 0) aN) (eC (.str (Str.ofString "number")))) [cu W k] = some (!decide (w.kd = Str.ofString "number")) := tV_ok (e2_ok (kh rfl hw) rfl pNe_strs)
    rw [decide_eq_true hk] at hc2
    rw [r_seq, if_ff hc2, r_skip, r_nx, r_ret]
    unfold eIntM
    rw [ms_cu (fs := aN) (env := [cu W k]) rfl r_aN, take_eq hw]
    show retO ((intTD [.str w.wd]).bind fun d => some (mkS (cu W (k + 1)) d)) = _
    rw [show intTD [.str w.wd] = some (.int i) by show (if _ then _ else _) = _; rw [if_pos hl, hi]; rfl]
    rfl
  rw [r_seq, if_tt hc, r_ret, r_tupM, r_consM, r_C, r_here, ms_cu (fs := aN) (env := [cu W k, .none]) rfl r_aN, hn]
  rfl
theorem leaf_name (hw : W[k]? = some w) (hk : w.kd = Str.ofString "word") (hr : w.wd ∉ resS) (hw2 : W[k + 1]? = some w2) (hd : w2.wd ≠ Str.ofString ".") : F_take_leaf [cu W k] = some (mkS (cu W (k + 1)) (.tuple [.str "name", .str w.wd])) := by
  refine runS_eq rfl ?_
  show B_take_leaf [cu W k, .none] = _
  unfold B_take_leaf
  have hc : tV (e2 pEq (eMeth PC_Cursor.C (Str.ofString "kind_here") (flatF F_Cursor_kind_here) (eV 0) aN) (eC (.str (Str.ofString "number")))) [cu W k, .none] = some (decide (w.kd = Str.ofString "number")) := tV_ok (e2_ok (kh rfl hw) rfl pEq_strs)
  rw [decide_eq_false (by rw [hk]; decide)] at hc
  have hb : tV (e2 pIn (eMeth PC_Cursor.C (Str.ofString "word_here") (flatF F_Cursor_word_here) (eV 0) aN) (eTup (aC (eC (.str (Str.ofString "true"))) (aC (eC (.str (Str.ofString "false"))) aN)))) [cu W k, .none] = some (decide (w.wd ∈ (["true", "false"] : List Str))) :=
    tV_ok (e2_ok (wh rfl hw) (by rw [r_tup, r_aC, r_aC, r_C, r_C, r_aN]; exact r_tup2) (pIn_strs (S := ["true", "false"])))
  rw [decide_eq_false fun e => hr (by
    rcases List.mem_cons.mp e with e | e
    · rw [e]; decide
    · rw [List.mem_singleton.mp e]; decide)] at hb
  have hnm : F_Cursor_name_is_here [cu W k] = some (.bool true) := by
    refine runF_rt rfl ?_
    show B_Cursor_name_is_here [cu W k] = _
    unfold B_Cursor_name_is_here eAnd
    rw [r_ret, r_e2, kh (by rfl) hw, r_C, r_b2, pEq_strs, hk, decide_eq_true rfl, Option.bind_some]
    show retO (eInG true (resS.map .str) _ _) = _
    rw [inG_strs (S := resS) (wh (by rfl) hw), decide_eq_false hr]
    rfl
  have hnt : ∀ e : List D, tNotF (tT (eMeth PC_Cursor.C (Str.ofString "name_is_here") (flatF F_Cursor_name_is_here) (eV 0) aN)) (cu W k :: e) = some false := fun e => by
    rw [r_tNot, r_tT, r_meth, r_V]
    show notT (trO (if _ then _ else _)) = _
    rw [if_pos (isM_cu (by decide) (by decide))]
    show notT (trO (flatF F_Cursor_name_is_here [cu W k])) = _
    unfold flatF
    rw [hnm]
    rfl
  have htn : F_Cursor_take_name [cu W k] = some (mkS (cu W (k + 1)) (.str w.wd)) := by
    refine runS_eq rfl ?_
    show B_Cursor_take_name [cu W k] = _
    unfold B_Cursor_take_name
    rw [r_seq, if_ff (hnt []), r_skip, r_nx, r_ret, ms_cu (fs := aN) (env := [cu W k]) rfl r_aN, take_eq hw]
    rfl
  rw [r_seq, if_ff hc, r_skip, r_nx, r_seq, if_ff hb, r_skip, r_nx, r_seq, if_ff (hnt _), r_skip, r_nx, r_seq, r_setM, ms_cu (fs := aN) (env := [cu W k, .none]) rfl r_aN, htn]
  show thenO (some (.nx [cu W (k + 1), .str w.wd])) _ = _
  rw [r_nx, r_seq, r_ifM, r_tM, ms_cu (fs := aC (eC (.str (Str.ofString "."))) aN) (env := [cu W (k + 1), .str w.wd]) (ds := [.str (Str.ofString ".")]) rfl rfl, takeif_eq hw2, if_neg hd]
  rfl
end
end My

namespace My
open PySem L2 Pf
theorem tor_ff {a b : TF} {env : List D} (h : a env = some false) (k : b env = some false) : tOrF a b env = some false := by
  unfold tOrF
  rw [h]
  exact k
theorem seq_rt {f g : SF} {env : List D} {d : D} (h : f env = some (.rt d)) : sSeq f g env = some (.rt d) := by
  unfold sSeq
  rw [h]
  rfl
theorem tand_tt {a b : TF} {env : List D} (h : a env = some true) : tAndF a b env = b env := by
  unfold tAndF
  rw [h]
  rfl
theorem tand_ff {a b : TF} {env : List D} (h : a env = some false) : tAndF a b env = some false := by
  unfold tAndF
  rw [h]
  rfl
end My

namespace My
open PySem L2 Pf
section
variable [PC_Cursor]
def wD (w : List Str) : D := .list (w.map .str)
theorem wD_at {w : List Str} {k : Nat} {s : Str} (h : w[k]? = some s) : pIx (wD w) (.int (k : Int)) = some (.str s) := ix_nat (by rw [List.getElem?_map, h]; rfl)
theorem cut_from {α : Type} {a b : List α} {i : Int} (h : i = ((a.length : Nat) : Int)) : cutD (a ++ b) (some i) none = b := by
  unfold cutD
  subst h
  rw [HT.sIx_nat, HT.sIx_none, List.length_append, Nat.min_eq_left (by omega), List.drop_left, List.take_of_length_le (by omega)]
theorem cut_to {α : Type} {a b : List α} {i : Int} (h : i = ((a.length : Nat) : Int)) : cutD (a ++ b) none (some i) = a := by
  unfold cutD
  subst h
  rw [HT.sIx_nat, HT.sIx_none, List.length_append, Nat.min_eq_left (by omega), List.drop_zero, Nat.sub_zero, List.take_left]
theorem pIn_strsL {S : List Str} {a : Str} : pIn (.str a) (.list (S.map .str)) = some (.bool (decide (a ∈ S))) := by
  show (inD (.str a) (.list (S.map .str))).map PyData.bool = _
  unfold inD
  simp only []
  rw [if_pos (by rw [flat_strs]; rfl), any_strs]
  rfl
def fnd (S : List Str) (last : Bool) (w : List Str) : Nat → Int
  | 0 => -1
  | k + 1 => match w[k]? with
    | some s => if s ∈ S ∧ (last = true ∨ fnd S last w k < 0) then (k : Int) else fnd S last w k
    | none => fnd S last w k
theorem split_eq {S : List Str} {last : Bool} {w : List Str} (hl : w.length ≤ 4000) : F__law_split [wD w, .list (S.map .str), .bool last] = some (.int (fnd S last w w.length)) := by
  obtain ⟨e', h1, h2⟩ := for_rng (lo := 0) (n := w.length) (g := gN 4) (body := L__law_split_1) (env := [wD w, .list (S.map .str), .bool last, .int (-1), .none])
    (fun k e => ∃ x, e = [wD w, .list (S.map .str), .bool last, .int (fnd S last w k), x]) ⟨.none, rfl⟩ (by
      rintro k e hk ⟨x, rfl⟩
      rw [Int.zero_add]
      show Stp (L__law_split_1 [wD w, .list (S.map .str), .bool last, .int (fnd S last w k), .int (k : Int)]) _ _ _
      obtain ⟨s, hs⟩ : ∃ s, w[k]? = some s := ⟨_, List.getElem?_eq_getElem hk⟩
      have t1 : tV (e2 pIn (e2 pIx (eV 0) (eV 4)) (eV 1)) [wD w, .list (S.map .str), .bool last, .int (fnd S last w k), .int (k : Int)] = some (decide (s ∈ S)) := tV_ok (e2_ok (e2_ok rfl rfl (wD_at hs)) rfl pIn_strsL)
      have t2 : tOrF (tT (eV 2)) (tV (e2 pLt (eV 3) (eC (.int 0)))) [wD w, .list (S.map .str), .bool last, .int (fnd S last w k), .int (k : Int)] = some (decide (last = true ∨ fnd S last w k < 0)) := by
        have t3 : tV (e2 pLt (eV 3) (eC (.int 0))) [wD w, .list (S.map .str), .bool last, .int (fnd S last w k), .int (k : Int)] = some (decide (fnd S last w k < 0)) := tV_ok (e2_ok rfl rfl rfl)
        unfold tOrF
        cases last with
        | true => rfl
        | false =>
          show (some false).bind _ = _
          rw [Option.bind_some, if_neg (by decide), t3]
          congr 1
          simp
      have e1 : fnd S last w (k + 1) = if s ∈ S ∧ (last = true ∨ fnd S last w k < 0) then (k : Int) else fnd S last w k := by
        show (match w[k]? with | some s => _ | none => _) = _
        rw [hs]
      unfold L__law_split_1
      by_cases c : s ∈ S ∧ (last = true ∨ fnd S last w k < 0)
      · rw [if_tt ((tand_tt (t1.trans (by rw [decide_eq_true c.1]))).trans (t2.trans (by rw [decide_eq_true c.2])))]
        rw [e1, if_pos c]
        exact ⟨_, rfl⟩
      · have tf : tAndF (tV (e2 pIn (e2 pIx (eV 0) (eV 4)) (eV 1))) (tOrF (tT (eV 2)) (tV (e2 pLt (eV 3) (eC (.int 0))))) [wD w, .list (S.map .str), .bool last, .int (fnd S last w k), .int (k : Int)] = some false := by
          by_cases c1 : s ∈ S
          · exact (tand_tt (t1.trans (by rw [decide_eq_true c1]))).trans (t2.trans (by rw [decide_eq_false fun c2 => c ⟨c1, c2⟩]))
          · exact tand_ff (t1.trans (by rw [decide_eq_false c1]))
        rw [if_ff tf, e1, if_neg c, r_skip]
        exact ⟨_, rfl⟩)
  obtain ⟨x, rfl⟩ := h2
  refine runF_rt rfl ?_
  show B__law_split [wD w, .list (S.map .str), .bool last, .none, .none] = _
  unfold B__law_split
  have er : aRng1 (aC (eL lenD (aC (eV 0) aN)) aN) [wD w, .list (S.map .str), .bool last, .int (-1), .none] = some (rngD 0 w.length) :=
    aRng1_ok (aC_ok (eL_ok (aC_ok rfl rfl) (by show lenD [.list _] = _; rw [r_lenL, List.length_map])) rfl) (by omega)
  rw [r_seq]
  show thenO (some (.nx [wD w, .list (S.map .str), .bool last, .int (-1), .none])) _ = _
  rw [r_nx, r_seq, for_run er, h1]
  rfl
theorem fnd_pre {S : List Str} {last : Bool} {a b : List Str} : ∀ {k : Nat}, k ≤ a.length → fnd S last (a ++ b) k = fnd S last a k
  | 0, _ => rfl
  | k + 1, h => by
    show (match (a ++ b)[k]? with | some s => _ | none => _) = (match a[k]? with | some s => _ | none => _)
    rw [List.getElem?_append_left (by omega), fnd_pre (k := k) (by omega)]
theorem fnd_no {S : List Str} {last : Bool} {w : List Str} (h : ∀ s ∈ w, s ∉ S) : ∀ k, fnd S last w k = -1
  | 0 => rfl
  | k + 1 => by
    show (match w[k]? with | some s => _ | none => _) = _
    cases e : w[k]? with
    | none => exact fnd_no h k
    | some s =>
      show (if _ then _ else _) = _
      rw [if_neg fun c => h s (List.mem_of_getElem? e) c.1]
      exact fnd_no h k
theorem fnd_last {S : List Str} {a b : List Str} {s : Str} (hs : s ∈ S) (hb : ∀ x ∈ b, x ∉ S) : fnd S true (a ++ s :: b) (a ++ s :: b).length = (a.length : Int) := by
  have key : ∀ j, j ≤ b.length → fnd S true (a ++ s :: b) (a.length + 1 + j) = (a.length : Int) := by
    intro j
    induction j with
    | zero =>
      intro _
      show (match (a ++ s :: b)[a.length]? with | some s => _ | none => _) = _
      rw [List.getElem?_append_right (Nat.le_refl _), Nat.sub_self]
      show (if _ then _ else _) = _
      rw [if_pos ⟨hs, .inl rfl⟩]
    | succ j ih =>
      intro hj
      show (match (a ++ s :: b)[a.length + 1 + j]? with | some s => _ | none => _) = _
      rw [List.getElem?_append_right (by omega), show a.length + 1 + j - a.length = j + 1 by omega, List.getElem?_cons_succ]
      cases e : b[j]? with
      | none => exact ih (by omega)
      | some x =>
        show (if _ then _ else _) = _
        rw [if_neg fun c => hb x (List.mem_of_getElem? e) c.1]
        exact ih (by omega)
  have := key b.length (Nat.le_refl _)
  rwa [show a.length + 1 + b.length = (a ++ s :: b).length by simp; omega] at this
theorem fnd_first {S : List Str} {a b : List Str} {s : Str} (hs : s ∈ S) (ha : ∀ x ∈ a, x ∉ S) : fnd S false (a ++ s :: b) (a ++ s :: b).length = (a.length : Int) := by
  have h0 : fnd S false (a ++ s :: b) a.length = -1 := by rw [fnd_pre (Nat.le_refl _)]; exact fnd_no ha _
  have h1 : fnd S false (a ++ s :: b) (a.length + 1) = (a.length : Int) := by
    show (match (a ++ s :: b)[a.length]? with | some s => _ | none => _) = _
    rw [List.getElem?_append_right (Nat.le_refl _), Nat.sub_self]
    show (if _ then _ else _) = _
    rw [if_pos ⟨hs, .inr (by rw [h0]; decide)⟩]
  have key : ∀ j, fnd S false (a ++ s :: b) (a.length + 1 + j) = (a.length : Int) := by
    intro j
    induction j with
    | zero => exact h1
    | succ j ih =>
      show (match (a ++ s :: b)[a.length + 1 + j]? with | some s => _ | none => _) = _
      cases e : (a ++ s :: b)[a.length + 1 + j]? with
      | none => exact ih
      | some x =>
        show (if _ then _ else _) = _
        rw [if_neg fun c => by
          rcases c.2 with c | c
          · cases c
          · have c2 : fnd S false (a ++ s :: b) (a.length + 1 + j) < 0 := c
            rw [ih] at c2; omega]
        exact ih
  have := key b.length
  rwa [show a.length + 1 + b.length = (a ++ s :: b).length by simp; omega] at this
def GR : List (List Str) := [["implies"], ["or"], ["and"], ["since"], ["not", "before", "once"], ["<", "<=", "=", "!=", ">=", ">"], ["+", "-"], ["*"]]
def Tr' (n : Nat) (lv : Int) (w : List Str) (t : D) : Prop := R__law_tree n [wD w, .int lv] = some t
def grD : D := .list (GR.map fun g => .list (g.map .str))
variable {n : Nat} {w a b : List Str} {s : Str} {t t1 t2 : D}
theorem gr_at {k : Nat} {g : List Str} (h : GR[k]? = some g) : pIx grD (.int (k : Int)) = some (.list (g.map .str)) := ix_nat (by rw [List.getElem?_map, h]; rfl)
theorem lt_start {lv : D} : ∀ {f g : SF} {r : Out}, g [wD w, lv, grD, .none, .none, .none] = some r → sSeq (sSet 2 (eLst (aC (eLst (aC (eC (.str (Str.ofString "implies"))) aN)) (aC (eLst (aC (eC (.str (Str.ofString "or"))) aN)) (aC (eLst (aC (eC (.str (Str.ofString "and"))) aN)) (aC (eLst (aC (eC (.str (Str.ofString "since"))) aN)) (aC (eLst (aC (eC (.str (Str.ofString "not"))) (aC (eC (.str (Str.ofString "before"))) (aC (eC (.str (Str.ofString "once"))) aN)))) (aC (eLst (aC (eC (.str (Str.ofString "<"))) (aC (eC (.str (Str.ofString "<="))) (aC (eC (.str (Str.ofString "="))) (aC (eC (.str (Str.ofString "!="))) (aC (eC (.str (Str.ofString ">="))) (aC (eC (.str (Str.ofString ">"))) aN))))))) (aC (eLst (aC (eC (.str (Str.ofString "+"))) (aC (eC (.str (Str.ofString "-"))) aN))) (aC (eLst (aC (eC (.str (Str.ofString "*"))) aN)) aN)))))))))) g [wD w, lv, .none, .none, .none, .none] = some r := by
  intro f g r h
  rw [r_seq]
  exact h
theorem eq8 {lv : Int} {e : List D} : tV (e2 pEq (eV 1) (eC (.int 8))) (wD w :: .int lv :: e) = some (decide (lv = 8)) := tV_ok (e2_ok rfl rfl (by rw [pEq_int, beq_dec]))
theorem eq4 {lv : Int} {e : List D} : tV (e2 pEq (eV 1) (eC (.int 4))) (wD w :: .int lv :: e) = some (decide (lv = 4)) := tV_ok (e2_ok rfl rfl (by rw [pEq_int, beq_dec]))
theorem fst_eq {x : Str} {lv : Int} {e : List D} (h : w[0]? = some s) : tV (e2 pEq (e2 pIx (eV 0) (eC (.int 0))) (eC (.str x))) (wD w :: .int lv :: e) = some (decide (s = x)) := tV_ok (e2_ok (e2_ok rfl rfl (wD_at (k := 0) h)) rfl pEq_strs)
theorem lt8_neg (h : Tr' n 8 w t) : Tr' (n + 1) 8 (Str.ofString "neg" :: w) (.tuple [.str "negative", t]) := by
  unfold Tr'
  show runF 1 2 6 (B__law_tree (R__law_tree n)) _ = _
  refine runF_rt rfl ?_
  show B__law_tree (R__law_tree n) [wD (Str.ofString "neg" :: w), .int 8, .none, .none, .none, .none] = _
  unfold B__law_tree
  refine lt_start (f := sSkip) ?_
  rw [r_seq, if_tt (eq8.trans rfl), r_seq, if_tt ((fst_eq (s := Str.ofString "neg") rfl).trans (by rw [decide_eq_true rfl]))]
  have hs : eSl pSlL (eV 0) (oS (eC (.int 1))) oN [wD (Str.ofString "neg" :: w), .int 8, grD, .none, .none, .none] = some (wD w) := by
    show some (PyData.list (cutD ((Str.ofString "neg" :: w).map PyData.str) (some 1) none)) = _
    rw [List.map_cons, show PyData.str (Str.ofString "neg") :: w.map PyData.str = [PyData.str (Str.ofString "neg")] ++ w.map PyData.str from rfl, cut_from (by rfl)]
    rfl
  have hr : eL (R__law_tree n) (aC (eSl pSlL (eV 0) (oS (eC (.int 1))) oN) (aC (eC (.int 8)) aN)) [wD (Str.ofString "neg" :: w), .int 8, grD, .none, .none, .none] = some t := eL_ok (aC_ok hs (aC_ok rfl rfl)) h
  rw [r_ret, r_tup, r_aC, r_C, r_aC, hr, r_aN]
  show thenO (thenO (retO (tupO (some [.str "negative", t]))) _) _ = _
  rw [r_tup2]
  rfl
theorem lt8_one {f : D} (hn : s ≠ Str.ofString "neg") (hf : (s ∈ (["3", "0", "12"] : List Str) ∧ ∃ i, intTD [.str s] = some (.int i) ∧ f = .tuple [.str "number", .int i]) ∨ (s ∉ (["3", "0", "12"] : List Str) ∧ f = .tuple [.str "name", .str s])) : Tr' (n + 1) 8 [s] f := by
  unfold Tr'
  show runF 1 2 6 (B__law_tree (R__law_tree n)) _ = _
  refine runF_rt rfl ?_
  show B__law_tree (R__law_tree n) [wD [s], .int 8, .none, .none, .none, .none] = _
  unfold B__law_tree
  refine lt_start (f := sSkip) ?_
  rw [r_seq, if_tt (eq8.trans rfl), r_seq, if_ff ((fst_eq (s := s) rfl).trans (by rw [decide_eq_false hn])), r_skip, r_nx, r_seq]
  have ht : tV (e2 pIn (e2 pIx (eV 0) (eC (.int 0))) (eLst (aC (eC (.str (Str.ofString "3"))) (aC (eC (.str (Str.ofString "0"))) (aC (eC (.str (Str.ofString "12"))) aN))))) [wD [s], .int 8, grD, .none, .none, .none] = some (decide (s ∈ (["3", "0", "12"] : List Str))) :=
    tV_ok (e2_ok (e2_ok rfl rfl (wD_at (k := 0) rfl)) (by rw [r_lst, r_aC, r_aC, r_aC, r_C, r_C, r_C, r_aN]; exact r_lst3) (pIn_strsL (S := ["3", "0", "12"])))
  have h0 : e2 pIx (eV 0) (eC (.int 0)) [wD [s], .int 8, grD, .none, .none, .none] = some (.str s) := e2_ok rfl rfl (wD_at (w := [s]) (k := 0) rfl)
  rcases hf with ⟨h1, i, h2, rfl⟩ | ⟨h1, rfl⟩
  · rw [decide_eq_true h1] at ht
    have h3 : eL intTD (aC (e2 pIx (eV 0) (eC (.int 0))) aN) [wD [s], .int 8, grD, .none, .none, .none] = some (.int i) := eL_ok (aC_ok h0 rfl) h2
    rw [if_tt ht, r_ret, r_tup, r_aC, r_C, r_aC, h3, r_aN]
    show thenO (thenO (retO (tupO (some [.str "number", .int i]))) _) _ = _
    rw [r_tup2]
    rfl
  · rw [decide_eq_false h1] at ht
    rw [if_ff ht, r_skip, r_nx, r_ret, r_tup, r_aC, r_C, r_aC, h0, r_aN]
    show thenO (retO (tupO (some [.str "name", .str s]))) _ = _
    rw [r_tup2]
    rfl
theorem in4 {e : List D} {lv : Int} (h : w[0]? = some s) : tV (e2 pIn (e2 pIx (eV 0) (eC (.int 0))) (e2 pIx (eV 2) (eC (.int 4)))) (wD w :: .int lv :: grD :: e) = some (decide (s ∈ (["not", "before", "once"] : List Str))) :=
  tV_ok (e2_ok (e2_ok rfl rfl (wD_at (k := 0) h)) (e2_ok rfl rfl (gr_at (k := 4) rfl)) pIn_strsL)
theorem lt4_same (h0 : w[0]? = some s) (hs : s ∉ (["not", "before", "once"] : List Str)) (h : Tr' n 5 w t) : Tr' (n + 1) 4 w t := by
  unfold Tr'
  show runF 1 2 6 (B__law_tree (R__law_tree n)) _ = _
  refine runF_rt rfl ?_
  show B__law_tree (R__law_tree n) [wD w, .int 4, .none, .none, .none, .none] = _
  unfold B__law_tree
  refine lt_start (f := sSkip) ?_
  have t1 := in4 (w := w) (s := s) (lv := 4) (e := [.none, .none, .none]) h0
  rw [decide_eq_false hs] at t1
  rw [r_seq, if_ff (eq8.trans rfl), r_skip, r_nx, r_seq, if_tt (eq4.trans rfl), r_seq, if_ff (tand_ff t1), r_skip, r_nx, r_seq, if_ff t1, r_skip, r_nx, r_ret, show eL (R__law_tree n) (aC (eV 0) (aC (eC (.int 5)) aN)) [wD w, .int 4, grD, .none, .none, .none] = some t from eL_ok (aC_ok rfl (aC_ok rfl rfl)) h]
  rfl
theorem lt4_pre (hs : s ∈ (["not", "before", "once"] : List Str)) (h : Tr' n 4 w t) : Tr' (n + 1) 4 (s :: w) (if s = Str.ofString "once" then .tuple [.str s, .none, t] else .tuple [.str s, t]) := by
  unfold Tr'
  show runF 1 2 6 (B__law_tree (R__law_tree n)) _ = _
  refine runF_rt rfl ?_
  show B__law_tree (R__law_tree n) [wD (s :: w), .int 4, .none, .none, .none, .none] = _
  unfold B__law_tree
  refine lt_start (f := sSkip) ?_
  have t1 := in4 (w := s :: w) (s := s) (lv := 4) (e := [.none, .none, .none]) rfl
  rw [decide_eq_true hs] at t1
  have t2 := fst_eq (w := s :: w) (s := s) (x := Str.ofString "once") (lv := 4) (e := [grD, .none, .none, .none]) rfl
  have hsl : eSl pSlL (eV 0) (oS (eC (.int 1))) oN [wD (s :: w), .int 4, grD, .none, .none, .none] = some (wD w) := by
    show some (PyData.list (cutD ((s :: w).map PyData.str) (some 1) none)) = _
    rw [List.map_cons, show PyData.str s :: w.map PyData.str = [PyData.str s] ++ w.map PyData.str from rfl, cut_from (by rfl)]
    rfl
  have hr : eL (R__law_tree n) (aC (eSl pSlL (eV 0) (oS (eC (.int 1))) oN) (aC (eC (.int 4)) aN)) [wD (s :: w), .int 4, grD, .none, .none, .none] = some t := eL_ok (aC_ok hsl (aC_ok rfl rfl)) h
  have h0 : e2 pIx (eV 0) (eC (.int 0)) [wD (s :: w), .int 4, grD, .none, .none, .none] = some (.str s) := e2_ok rfl rfl (wD_at (w := s :: w) (k := 0) rfl)
  rw [r_seq, if_ff (eq8.trans rfl), r_skip, r_nx, r_seq, if_tt (eq4.trans rfl), r_seq]
  by_cases c : s = Str.ofString "once"
  · rw [decide_eq_true c] at t2
    rw [if_tt ((tand_tt t1).trans t2), r_ret, r_tup, r_aC, r_C, r_aC, r_C, r_aC, hr, r_aN, if_pos c]
    show thenO (thenO (retO (tupO (some [.str "once", .none, t]))) _) _ = _
    rw [r_tup3, c]
    rfl
  · rw [decide_eq_false c] at t2
    rw [if_ff ((tand_tt t1).trans t2), r_skip, r_nx, r_seq, if_tt t1, r_ret, r_tup, r_aC, h0, r_aC, hr, r_aN, if_neg c]
    show thenO (thenO (retO (tupO (some [.str s, t]))) _) _ = _
    rw [r_tup2]
    rfl
theorem lt_split {k : Nat} {g : List Str} {z : Int} (hg : GR[k]? = some g) (hl : w.length ≤ 4000) (hz : fnd g (!decide ((k : Int) = 0)) w w.length = z) : eL F__law_split (aC (eV 0) (aC (e2 pIx (eV 2) (eV 1)) (aC (e2 pNe (eV 1) (eC (.int 0))) aN))) [wD w, .int (k : Int), grD, .none, .none, .none] = some (.int z) := by
  refine eL_ok (aC_ok rfl (aC_ok (e2_ok rfl rfl (gr_at hg)) (aC_ok (e2_ok rfl rfl (by rw [pNe_int, beq_dec])) rfl))) ?_
  rw [split_eq hl, hz]
theorem lv_ne {k : Nat} (h8 : k < 8) : decide ((k : Int) = 8) = false := decide_eq_false (by omega)
theorem lt_up {k : Nat} {g : List Str} (hg : GR[k]? = some g) (h4 : k ≠ 4) (h8 : k < 8) (hl : w.length ≤ 4000) (hw : ∀ x ∈ w, x ∉ g) (h : Tr' n ((k : Int) + 1) w t) : Tr' (n + 1) (k : Int) w t := by
  unfold Tr'
  show runF 1 2 6 (B__law_tree (R__law_tree n)) _ = _
  refine runF_rt rfl ?_
  show B__law_tree (R__law_tree n) [wD w, .int (k : Int), .none, .none, .none, .none] = _
  unfold B__law_tree
  refine lt_start (f := sSkip) ?_
  have hc : tV (e2 pLt (eV 3) (eC (.int 0))) [wD w, .int (k : Int), grD, .int (-1), .none, .none] = some true := tV_ok (e2_ok rfl rfl rfl)
  rw [r_seq, if_ff (eq8.trans (by rw [lv_ne h8])), r_skip, r_nx, r_seq, if_ff (eq4.trans (by rw [decide_eq_false (by omega)])), r_skip, r_nx, r_seq, r_set, lt_split hg hl (fnd_no hw _), r_setO, r_nx, r_seq]
  show thenO (sIf _ _ _ [wD w, .int (k : Int), grD, .int (-1), .none, .none]) _ = _
  rw [if_tt hc, r_ret, show eL (R__law_tree n) (aC (eV 0) (aC (e2 pAdd (eV 1) (eC (.int 1))) aN)) [wD w, .int (k : Int), grD, .int (-1), .none, .none] = some t from eL_ok (aC_ok rfl (aC_ok (e2_ok rfl rfl rfl) rfl)) h]
  rfl
theorem lt_imp (hl : (a ++ s :: b).length ≤ 4000) (hs : s = "implies") (ha : ∀ x ∈ a, x ∉ (["implies"] : List Str)) (h1 : Tr' n 1 a t1) (h2 : Tr' n 0 b t2) : Tr' (n + 1) 0 (a ++ s :: b) (.tuple [.str "implies", t1, t2]) := by
  unfold Tr'
  show runF 1 2 6 (B__law_tree (R__law_tree n)) _ = _
  refine runF_rt rfl ?_
  show B__law_tree (R__law_tree n) [wD (a ++ s :: b), .int 0, .none, .none, .none, .none] = _
  unfold B__law_tree
  refine lt_start (f := sSkip) ?_
  have hc : tV (e2 pLt (eV 3) (eC (.int 0))) [wD (a ++ s :: b), .int 0, grD, .int (a.length : Int), .none, .none] = some false := tV_ok (e2_ok rfl rfl (by show some (PyData.bool (decide _)) = _; rw [decide_eq_false (by omega)]))
  have hz : tV (e2 pEq (eV 1) (eC (.int 0))) [wD (a ++ s :: b), .int 0, grD, .int (a.length : Int), .none, .none] = some true := tV_ok (e2_ok rfl rfl (by rw [pEq_int]; rfl))
  have hA : eL (R__law_tree n) (aC (eSl pSlL (eV 0) oN (oS (eV 3))) (aC (eC (.int 1)) aN)) [wD (a ++ s :: b), .int 0, grD, .int (a.length : Int), .none, .none] = some t1 := by
    refine eL_ok (aC_ok (d := wD a) ?_ (aC_ok rfl rfl)) h1
    show some (PyData.list (cutD ((a ++ s :: b).map PyData.str) none (some _))) = _
    rw [List.map_append, cut_to (by rw [List.length_map])]
    rfl
  have hB : eL (R__law_tree n) (aC (eSl pSlL (eV 0) (oS (e2 pAdd (eV 3) (eC (.int 1)))) oN) (aC (eC (.int 0)) aN)) [wD (a ++ s :: b), .int 0, grD, .int (a.length : Int), .none, .none] = some t2 := by
    refine eL_ok (aC_ok (d := wD b) ?_ (aC_ok rfl rfl)) h2
    show some (PyData.list (cutD ((a ++ s :: b).map PyData.str) (some ((a.length : Int) + 1)) none)) = _
    rw [show (a ++ s :: b) = (a ++ [s]) ++ b by simp, List.map_append, cut_from (by simp)]
    rfl
  have hsp := lt_split (k := 0) (w := a ++ s :: b) (g := ["implies"]) (z := (a.length : Int)) rfl hl (fnd_first (by rw [hs]; decide) ha)
  rw [r_seq, if_ff (eq8.trans rfl), r_skip, r_nx, r_seq, if_ff (eq4.trans rfl), r_skip, r_nx, r_seq, r_set]
  show thenO (setO 3 (eL F__law_split _ [wD (a ++ s :: b), .int ((0 : Nat) : Int), grD, .none, .none, .none]) _) _ = _
  rw [hsp, r_setO, r_nx, r_seq]
  show thenO (sIf _ _ _ [wD (a ++ s :: b), .int 0, grD, .int (a.length : Int), .none, .none]) _ = _
  rw [if_ff hc, r_skip, r_nx, r_seq, if_tt hz, r_ret, r_tup, r_aC, r_C, r_aC, hA, r_aC, hB, r_aN]
  show thenO (retO (tupO (some [_, t1, t2]))) _ = _
  rw [r_tup3]
  rfl
def comT (k : Nat) (s : Str) (t1 t2 : D) : D := if k = 5 then .tuple [.str "compare", .str s, t1, t2] else if 5 < k then .tuple [.str "sum", .str s, t1, t2] else .tuple [.str s, t1, t2]
theorem lt_left {k : Nat} {g : List Str} (hg : GR[k]? = some g) (h0 : k ≠ 0) (h4 : k ≠ 4) (h8 : k < 8) (hl : (a ++ s :: b).length ≤ 4000) (hs : s ∈ g) (hb : ∀ x ∈ b, x ∉ g) (h1 : Tr' n (k : Int) a t1) (h2 : Tr' n ((k : Int) + 1) b t2) : Tr' (n + 1) (k : Int) (a ++ s :: b) (comT k s t1 t2) := by
  unfold Tr'
  show runF 1 2 6 (B__law_tree (R__law_tree n)) _ = _
  refine runF_rt rfl ?_
  show B__law_tree (R__law_tree n) [wD (a ++ s :: b), .int (k : Int), .none, .none, .none, .none] = _
  unfold B__law_tree
  refine lt_start (f := sSkip) ?_
  obtain ⟨W, hW⟩ : ∃ W, W = wD (a ++ s :: b) := ⟨_, rfl⟩
  have hc : tV (e2 pLt (eV 3) (eC (.int 0))) [W, .int (k : Int), grD, .int (a.length : Int), .none, .none] = some false := tV_ok (e2_ok rfl rfl (by show some (PyData.bool (decide _)) = _; rw [decide_eq_false (by omega)]))
  have hz : tV (e2 pEq (eV 1) (eC (.int 0))) [W, .int (k : Int), grD, .int (a.length : Int), .none, .none] = some false := tV_ok (e2_ok rfl rfl (by rw [pEq_int, beq_dec, decide_eq_false (by omega)]))
  have hA : eL (R__law_tree n) (aC (eSl pSlL (eV 0) oN (oS (eV 3))) (aC (eV 1) aN)) [W, .int (k : Int), grD, .int (a.length : Int), .none, .none] = some t1 := by
    refine eL_ok (aC_ok (d := wD a) ?_ (aC_ok rfl rfl)) h1
    subst hW
    show some (PyData.list (cutD ((a ++ s :: b).map PyData.str) none (some _))) = _
    rw [List.map_append, cut_to (by rw [List.length_map])]
    rfl
  have hB : eL (R__law_tree n) (aC (eSl pSlL (eV 0) (oS (e2 pAdd (eV 3) (eC (.int 1)))) oN) (aC (e2 pAdd (eV 1) (eC (.int 1))) aN)) [W, .int (k : Int), grD, .int (a.length : Int), t1, .none] = some t2 := by
    refine eL_ok (aC_ok (d := wD b) ?_ (aC_ok (e2_ok rfl rfl rfl) rfl)) h2
    subst hW
    show some (PyData.list (cutD ((a ++ s :: b).map PyData.str) (some ((a.length : Int) + 1)) none)) = _
    rw [show (a ++ s :: b) = (a ++ [s]) ++ b by simp, List.map_append, cut_from (by simp)]
    rfl
  have hi : e2 pIx (eV 0) (eV 3) [W, .int (k : Int), grD, .int (a.length : Int), t1, t2] = some (.str s) := by
    subst hW
    exact e2_ok rfl rfl (wD_at (k := a.length) (by rw [List.getElem?_append_right (Nat.le_refl _), Nat.sub_self]; rfl))
  have hsp := lt_split (k := k) (w := a ++ s :: b) (g := g) (z := (a.length : Int)) hg hl (by rw [decide_eq_false (by omega : ¬ (k : Int) = 0)]; exact fnd_last hs hb)
  rw [← hW] at hsp ⊢
  have e5 : tV (e2 pEq (eV 1) (eC (.int 5))) [W, .int (k : Int), grD, .int (a.length : Int), t1, t2] = some (decide ((k : Int) = 5)) := tV_ok (e2_ok rfl rfl (by rw [pEq_int, beq_dec]))
  have g5 : tV (e2 pGt (eV 1) (eC (.int 5))) [W, .int (k : Int), grD, .int (a.length : Int), t1, t2] = some (decide ((5 : Int) < (k : Int))) := tV_ok (e2_ok rfl rfl rfl)
  have q8 : tV (e2 pEq (eV 1) (eC (.int 8))) [W, .int (k : Int), grD, .none, .none, .none] = some false := tV_ok (e2_ok rfl rfl (by rw [pEq_int, beq_dec, decide_eq_false (by omega)]))
  have q4 : tV (e2 pEq (eV 1) (eC (.int 4))) [W, .int (k : Int), grD, .none, .none, .none] = some false := tV_ok (e2_ok rfl rfl (by rw [pEq_int, beq_dec, decide_eq_false (by omega)]))
  rw [r_seq, if_ff q8, r_skip, r_nx, r_seq, if_ff q4, r_skip, r_nx, r_seq, r_set, hsp, r_setO, r_nx, r_seq]
  show thenO (sIf _ _ _ [W, .int (k : Int), grD, .int (a.length : Int), .none, .none]) _ = _
  rw [if_ff hc, r_skip, r_nx, r_seq, if_ff hz, r_skip, r_nx, r_seq, r_set, hA, r_setO, r_nx, r_seq, r_set]
  show thenO (setO 5 (eL (R__law_tree n) _ [W, .int (k : Int), grD, .int (a.length : Int), t1, .none]) _) _ = _
  rw [hB, r_setO, r_nx, r_seq]
  show thenO (sIf _ _ _ [W, .int (k : Int), grD, .int (a.length : Int), t1, t2]) _ = _
  unfold comT
  by_cases c5 : k = 5
  · rw [if_tt (e5.trans (by rw [decide_eq_true (by omega)])), if_pos c5, r_ret, r_tup, r_aC, r_C, r_aC, hi, r_aC, r_V, r_aC, r_V, r_aN]
    show thenO (retO (tupO (some [_, .str s, t1, t2]))) _ = _
    rw [r_tup4]
    rfl
  · rw [if_ff (e5.trans (by rw [decide_eq_false (by omega)])), if_neg c5, r_skip, r_nx, r_seq]
    by_cases c6 : 5 < k
    · rw [if_tt (g5.trans (by rw [decide_eq_true (by omega)])), if_pos c6, r_ret, r_tup, r_aC, r_C, r_aC, hi, r_aC, r_V, r_aC, r_V, r_aN]
      show thenO (retO (tupO (some [_, .str s, t1, t2]))) _ = _
      rw [r_tup4]
      rfl
    · rw [if_ff (g5.trans (by rw [decide_eq_false (by omega)])), if_neg c6, r_skip, r_nx, r_ret, r_tup, r_aC, hi, r_aC, r_V, r_aC, r_V, r_aN]
      show retO (tupO (some [.str s, t1, t2])) = _
      rw [r_tup3]
      rfl
end
end My

namespace My
open PySem L2 Pf
def Al : Nat → D → Prop
  | _ + 1, .none => True
  | _ + 1, .bool _ => True
  | _ + 1, .int _ => True
  | _ + 1, .str _ => True
  | n + 1, .list ds => ds.length < 1000000 ∧ ∀ e ∈ ds, Al n e
  | n + 1, .tuple ds => ds.length < 1000000 ∧ ∀ e ∈ ds, Al n e
  | _, _ => False
theorem Al.up : ∀ {n : Nat} {d : D}, Al n d → ∀ m, n ≤ m → Al m d
  | n + 1, .none, _, m + 1, _ => trivial
  | n + 1, .bool _, _, m + 1, _ => trivial
  | n + 1, .int _, _, m + 1, _ => trivial
  | n + 1, .str _, _, m + 1, _ => trivial
  | n + 1, .list ds, h, m + 1, hm => ⟨h.1, fun e he => (h.2 e he).up m (by omega)⟩
  | n + 1, .tuple ds, h, m + 1, hm => ⟨h.1, fun e he => (h.2 e he).up m (by omega)⟩
  | 0, d, h, _, _ => by cases d <;> exact h.elim
  | _ + 1, .dict _, h, _, _ => h.elim
  | _ + 1, _, _, 0, hm => by omega
def bodyA (R : List D → Option D) : SF := (sIf (tNotF (tT (eL R (aC (e2 pIx (eV 0) (eV 2)) (aC (e2 pIx (eV 1) (eV 2)) aN))))) (sRet (eC (.bool false))) sSkip)
theorem loopA {R : List D → Option D} {d : D} {ds : List D} (hix : ∀ i : Nat, pIx d (.int (i : Int)) = atI ds (i : Int)) (hR : ∀ e ∈ ds, R [e, e] = some (.bool true)) : ∀ (n j : Nat) (x : D), j + n = ds.length →
    ∃ x', sFor (gN 2) (bodyA R) ((rngD 0 ds.length).drop j) [d, d, x] = some (.nx [d, d, x'])
  | 0, j, x, hj => by
    have e1 : (rngD 0 ds.length).drop j = [] := List.drop_eq_nil_of_le (by simp [rngD]; omega)
    exact ⟨x, by rw [e1]; rfl⟩
  | n + 1, j, x, hj => by
    have hl : j < ds.length := by omega
    have e1 : (rngD 0 ds.length).drop j = .int j :: (rngD 0 ds.length).drop (j + 1) := drop_get (by simp [rngD, hl])
    have ix : pIx d (.int (j : Int)) = some ds[j] := (hix j).trans (atI_lit ds j (List.getElem?_eq_getElem hl))
    have hr := hR _ (List.getElem_mem hl)
    obtain ⟨x', c⟩ := loopA hix hR n (j + 1) (.int j) (by omega)
    refine ⟨x', ?_⟩
    rw [e1]
    simp only [sFor, gN, Option.bind_some, List.set]
    have tst : tNotF (tT (eL R (aC (e2 pIx (eV 0) (eV 2)) (aC (e2 pIx (eV 1) (eV 2)) aN)))) [d, d, .int (j : Int)] = some false :=
      tNot_ok (b := true) (tT_ok (eL_ok (aC_ok (e2_ok rfl rfl ix) (aC_ok (e2_ok rfl rfl ix) rfl)) hr) rfl)
    have b1 : bodyA R [d, d, .int (j : Int)] = some (.nx [d, d, .int (j : Int)]) := (if_ff tst).trans rfl
    rw [b1]
    exact c
theorem al_tup {n : Nat} {ds : List D} (h : ds.length < 1000000) (k : ∀ e ∈ ds, Al n e) : Al (n + 1) (.tuple ds) := ⟨h, k⟩
theorem alike_self : ∀ (n : Nat) (d : D), Al n d → R__law_alike n [d, d] = some (.bool true)
  | 0, d, h => by cases d <;> exact h.elim
  | n + 1, .none, _ => by
    refine runF_rt rfl ?_
    show B__law_alike (R__law_alike n) [.none, .none, .none] = _
    unfold B__law_alike
    refine Eq.trans (seq_nx (Eq.trans (if_ff rfl) rfl)) ?_
    refine Eq.trans (seq_nx (Eq.trans (if_ff rfl) rfl)) ?_
    rw [r_seq, if_tt rfl]
    rfl
  | n + 1, .bool b, _ => by
    refine runF_rt rfl ?_
    show B__law_alike (R__law_alike n) [.bool b, .bool b, .none] = _
    unfold B__law_alike
    cases b <;> rfl
  | n + 1, .int b, _ => by
    refine runF_rt rfl ?_
    show B__law_alike (R__law_alike n) [.int b, .int b, .none] = _
    unfold B__law_alike
    refine Eq.trans (seq_nx (Eq.trans (if_ff rfl) rfl)) ?_
    refine Eq.trans (seq_nx (Eq.trans (if_ff rfl) rfl)) ?_
    refine Eq.trans (seq_nx (Eq.trans (if_ff rfl) rfl)) ?_
    refine Eq.trans (seq_nx (Eq.trans (if_ff rfl) rfl)) ?_
    refine Eq.trans (seq_nx (Eq.trans (if_ff rfl) rfl)) ?_
    refine Eq.trans (seq_nx (Eq.trans (if_ff rfl) rfl)) ?_
    refine ret_rt ?_
    show (pEq (.int b) (.int b)).bind _ = _
    rw [pEq_int]
    simp
  | n + 1, .str b, _ => by
    refine runF_rt rfl ?_
    show B__law_alike (R__law_alike n) [.str b, .str b, .none] = _
    unfold B__law_alike
    refine Eq.trans (seq_nx (Eq.trans (if_ff rfl) rfl)) ?_
    refine Eq.trans (seq_nx (Eq.trans (if_ff rfl) rfl)) ?_
    refine Eq.trans (seq_nx (Eq.trans (if_ff rfl) rfl)) ?_
    refine Eq.trans (seq_nx (Eq.trans (if_ff rfl) rfl)) ?_
    refine Eq.trans (seq_nx (Eq.trans (if_ff rfl) rfl)) ?_
    refine seq_rt (Eq.trans (if_tt rfl) (ret_rt ?_))
    show (pEq (.str b) (.str b)) = _
    rw [pEq_str]
    simp
  | n + 1, .list ds, h => by
    obtain ⟨x', c⟩ := loopA (R := R__law_alike n) (d := .list ds) (ds := ds) (fun _ => rfl) (fun e he => alike_self n e (h.2 e he)) ds.length 0 .none (by omega)
    have er : aRng1 (aC (eL lenD (aC (eV 1) aN)) aN) [.list ds, .list ds, .none] = some (rngD 0 ds.length) := aRng1_ok rfl (by have := h.1; omega)
    refine runF_rt rfl ?_
    show B__law_alike (R__law_alike n) [.list ds, .list ds, .none] = _
    have t1 : tOrF (tNotF (tT (eIsi "list" (eV 0)))) (tV (e2 pNe (eL lenD (aC (eV 0) aN)) (eL lenD (aC (eV 1) aN)))) [.list ds, .list ds, .none] = some false := tor_ff rfl (tV_ok (e2_ok rfl rfl (by rw [pNe_int]; simp)))
    unfold B__law_alike
    refine Eq.trans (seq_nx (Eq.trans (if_ff rfl) rfl)) ?_
    refine seq_rt (Eq.trans (if_tt rfl) ?_)
    refine Eq.trans (seq_nx (Eq.trans (if_ff t1) rfl)) ?_
    refine Eq.trans (seq_nx (Eq.trans (for_run er) c)) ?_
    exact ret_rt rfl
  | n + 1, .tuple ds, h => by
    obtain ⟨x', c⟩ := loopA (R := R__law_alike n) (d := .tuple ds) (ds := ds) (fun _ => rfl) (fun e he => alike_self n e (h.2 e he)) ds.length 0 .none (by omega)
    have er : aRng1 (aC (eL lenD (aC (eV 1) aN)) aN) [.tuple ds, .tuple ds, .none] = some (rngD 0 ds.length) := aRng1_ok rfl (by have := h.1; omega)
    refine runF_rt rfl ?_
    show B__law_alike (R__law_alike n) [.tuple ds, .tuple ds, .none] = _
    have t1 : tOrF (tNotF (tT (eIsi "tuple" (eV 0)))) (tV (e2 pNe (eL lenD (aC (eV 0) aN)) (eL lenD (aC (eV 1) aN)))) [.tuple ds, .tuple ds, .none] = some false := tor_ff rfl (tV_ok (e2_ok rfl rfl (by rw [pNe_int]; simp)))
    unfold B__law_alike
    refine seq_rt (Eq.trans (if_tt rfl) ?_)
    refine Eq.trans (seq_nx (Eq.trans (if_ff t1) rfl)) ?_
    refine Eq.trans (seq_nx (Eq.trans (for_run er) c)) ?_
    exact ret_rt rfl
  | n + 1, .dict _, h => h.elim
end My

namespace My
open PySem L2 Pf
section
variable [PC_Cursor]
def NM : List Str := ["x", "y", "z", "w", "v", "u"]
def MM : List Str := ["3", "0", "12"]
def tk (s : Str) : Str := if s = Str.ofString "neg" then Str.ofString "-" else s
def At (W : List Tok') (p : Nat) (w : List Str) : Prop := ∀ j s, w[j]? = some s → ∃ t, W[p + j]? = some t ∧ t.wd = tk s ∧ (s ∈ NM → t.kd = Str.ofString "word") ∧ (s ∈ MM → t.kd = Str.ofString "number")
variable {W : List Tok'} {p : Nat} {a b w : List Str} {s : Str}
theorem At.left (h : At W p (a ++ b)) : At W p a := fun j s e => h j s (by rw [List.getElem?_append_left (List.getElem?_eq_some_iff.mp e).1]; exact e)
theorem At.right (h : At W p (a ++ b)) : At W (p + a.length) b := fun j s e => by
  have := h (a.length + j) s (by rw [List.getElem?_append_right (by omega), show a.length + j - a.length = j by omega]; exact e)
  rwa [← Nat.add_assoc] at this
theorem At.head (h : At W p (s :: w)) : ∃ t, W[p]? = some t ∧ t.wd = tk s ∧ (s ∈ NM → t.kd = Str.ofString "word") ∧ (s ∈ MM → t.kd = Str.ofString "number") := h 0 s rfl
theorem At.tail (h : At W p (s :: w)) : At W (p + 1) w := At.right (a := [s]) h
def Gr (i k c : Nat) (lim : Int) (St : Str → Prop) (w : List Str) : Prop := ∃ (t : D) (h : Int), 0 ≤ h ∧ h ≤ w.length ∧ (∀ m, 9 - k + w.length ≤ m → Tr' m (k : Int) w t) ∧
  (∀ (W : List Tok') (p : Nat) (lv : Int), At W p w → (∃ u, W[p + w.length]? = some u ∧ St u.wd) → lv ≤ lim → ∀ n, c + w.length ≤ n → Pr W n i p lv (p + w.length) t h) ∧ Al (w.length + 2) t
inductive LC (S : List Str) (B : List Str → Prop) : List Str → Prop
  | base {w : List Str} : B w → LC S B w
  | step {a b : List Str} {s : Str} : LC S B a → s ∈ S → B b → LC S B (a ++ s :: b)
theorem lc_gr {i j o k c : Nat} {lim : Int} {S : List Str} {B : List Str → Prop} {St : Str → Prop} (J : Jn i j o S) (hg : GR[k]? = some S) (h0 : k ≠ 0) (h4 : k ≠ 4) (h8 : k < 8) (hB : ∀ w, B w → w.length ≤ 4000 → Gr o (k + 1) c lim St w) (hN : ∀ w, B w → ∀ x ∈ w, x ∉ S)
    (hS : ∀ s ∈ S, St s ∧ tk s = s) (hC : ∀ s ∈ S, ∀ t t1, comb s t t1 = comT k s t t1) : ∀ w, LC S B w → w.length ≤ 4000 → Gr i k (c + 2) lim (fun u => u ∉ S ∧ St u) w := by
  have key : ∀ w, LC S B w → w.length ≤ 4000 → ∃ (t : D) (h : Int), 0 ≤ h ∧ h ≤ w.length ∧ (∀ m, 9 - k + w.length ≤ m → Tr' m (k : Int) w t) ∧
      (∀ (W : List Tok') (p : Nat) (lv : Int), At W p w → (∃ u, W[p + w.length]? = some u ∧ St u.wd) → lv ≤ lim → ∀ n, c + w.length ≤ n → ∃ k1 t1 h1, Pr W n o p lv k1 t1 h1 ∧ Ch W n o S lv k1 t1 h1 (p + w.length) t h) ∧ Al (w.length + 2) t := by
    intro w hw
    induction hw with
    | @base w hb =>
      intro hl
      obtain ⟨t, h, g1, g2, g3, g4⟩ := hB w hb hl
      refine ⟨t, h, g1, g2, fun m hm => ?_, fun W p lv at' u hlv n hn => ⟨_, _, _, g4.1 W p lv at' u hlv n hn, .nil⟩, g4.2⟩
      obtain ⟨m', rfl⟩ : ∃ m', m = m' + 1 := ⟨m - 1, by omega⟩
      exact lt_up hg h4 h8 hl (hN w hb) (g3 m' (by omega))
    | @step a b s _ hs hb ih =>
      intro hl
      have hl2 : a.length + (b.length + 1) ≤ 4000 := by simpa using hl
      obtain ⟨t, h, g1, g2, g3, g4⟩ := ih (by omega)
      obtain ⟨t2, h2, q1, q2, q3, q4⟩ := hB b hb (by omega)
      have ln : (a ++ s :: b).length = a.length + (b.length + 1) := by simp
      refine ⟨comb s t t2, 1 + max h h2, by omega, by rw [ln]; omega, fun m hm => ?_, fun W p lv at' u hlv n hn => ?_, ?_⟩
      · rw [ln] at hm
        obtain ⟨m', rfl⟩ : ∃ m', m = m' + 1 := ⟨m - 1, by omega⟩
        rw [hC s hs]
        exact lt_left hg h0 h4 h8 hl hs (hN b hb) (g3 m' (by omega)) (q3 m' (by omega))
      · rw [ln] at u hn
        obtain ⟨x, x1, x2, _, _⟩ := (At.right at').head
        have xs : x.wd = s := x2.trans (hS s hs).2
        obtain ⟨k1, t1, h1, c1, c2⟩ := g4.1 W p lv at'.left ⟨x, x1, by rw [xs]; exact (hS s hs).1⟩ hlv n (by omega)
        refine ⟨k1, t1, h1, c1, ?_⟩
        have z := q4.1 W (p + a.length + 1) lv (At.tail (At.right at')) (by rwa [show p + a.length + 1 + b.length = p + (a.length + (b.length + 1)) by omega]) hlv n (by omega)
        have y := c2.snoc x1 (by rw [xs]; exact hs) z
        rw [xs] at y
        rwa [show p + (a ++ s :: b).length = p + a.length + 1 + b.length by rw [ln]; omega]
      · rw [ln]
        have A1 := g4.2.up (a.length + (b.length + 1) + 1) (by omega)
        have A2 := q4.2.up (a.length + (b.length + 1) + 1) (by omega)
        unfold comb
        split
        · exact al_tup (by simp) fun e he => by
            simp only [List.mem_cons, List.not_mem_nil, or_false] at he
            rcases he with rfl | rfl | rfl | rfl
            · exact trivial
            · exact trivial
            · exact A1
            · exact A2
        · exact al_tup (by simp) fun e he => by
            simp only [List.mem_cons, List.not_mem_nil, or_false] at he
            rcases he with rfl | rfl | rfl
            · exact trivial
            · exact A1
            · exact A2
  intro w hw hl
  obtain ⟨t, h, g1, g2, g3, g4⟩ := key w hw hl
  refine ⟨t, h, g1, g2, g3, fun W p lv at' u hlv n hn => ?_, g4.2⟩
  obtain ⟨u, u1, u2, u3⟩ := u
  obtain ⟨n', rfl⟩ : ∃ n', n = n' + 2 := ⟨n - 2, by omega⟩
  obtain ⟨k1, t1, h1, c1, c2⟩ := g4.1 W p lv at' ⟨u, u1, u3⟩ hlv n' (by omega)
  exact J W n' p lv k1 t1 h1 _ t h u c1 c2 u1 u2
inductive W8 : List Str → Prop
  | one {s : Str} : s ∈ NM ++ MM → W8 [s]
  | neg {s : Str} : s ∈ NM ++ MM → W8 [Str.ofString "neg", s]
def W7 := LC ["*"] W8
def W6 := LC ["+", "-"] W7
inductive W5 : List Str → Prop
  | base {w : List Str} : W6 w → W5 w
  | cmp {a b : List Str} {s : Str} : W6 a → s ∈ cmpS → W6 b → W5 (a ++ s :: b)
def P4 : List Str := ["not", "before", "once"]
inductive W4 : List Str → Prop
  | base {w : List Str} : W5 w → W4 w
  | pre {w : List Str} {s : Str} : s ∈ P4 → W5 w → W4 (s :: w)
def W3 := LC ["since"] W4
def W2 := LC ["and"] W3
def W1 := LC ["or"] W2
inductive W0 : List Str → Prop
  | base {w : List Str} : W1 w → W0 w
  | imp {a b : List Str} : W1 a → W0 b → W0 (a ++ Str.ofString "implies" :: b)
def Hi (k : Nat) (w : List Str) : Prop := ∀ x ∈ w, ∀ q, q < k → ∀ g, GR[q]? = some g → x ∉ g
def grl (q : Nat) : List Str := GR.getD q []
theorem hi_dec {k : Nat} {L : List Str} (h : (L.all fun x => (List.range k).all fun q => !decide (x ∈ grl q)) = true) {s : Str} (hs : s ∈ L) : ∀ q, q < k → ∀ g, GR[q]? = some g → s ∉ g := fun q hq g hg => by
  have h1 := List.all_eq_true.mp (List.all_eq_true.mp h s hs) q (List.mem_range.mpr hq)
  have e : grl q = g := by unfold grl; rw [List.getD_eq_getElem?_getD, hg]; rfl
  rw [e] at h1
  simpa using h1
theorem Hi.down {k k' : Nat} (h : Hi k w) (l : k' ≤ k) : Hi k' w := fun x hx q hq => h x hx q (by omega)
theorem lc_hi {k : Nat} {S : List Str} {B : List Str → Prop} (hS : (S.all fun x => (List.range k).all fun q => !decide (x ∈ grl q)) = true) (hB : ∀ w, B w → Hi (k + 1) w) : ∀ w, LC S B w → Hi k w := by
  intro w hw
  induction hw with
  | base hb => exact (hB _ hb).down (by omega)
  | step _ hs hb ih =>
    intro x hx
    rcases List.mem_append.mp hx with hx | hx
    · exact ih x hx
    · rcases List.mem_cons.mp hx with rfl | hx
      · exact hi_dec hS hs
      · exact (hB _ hb).down (by omega) x hx
theorem hi8 : ∀ w, W8 w → Hi 8 w := by
  rintro w (hs | hs) x hx
  · rw [List.mem_singleton.mp hx]
    exact hi_dec (L := NM ++ MM) (by decide) hs
  · rcases List.mem_cons.mp hx with rfl | hx
    · exact hi_dec (L := ["neg"]) (by decide) (by decide)
    · rw [List.mem_singleton.mp hx]
      exact hi_dec (L := NM ++ MM) (by decide) hs
theorem hi7 : ∀ w, W7 w → Hi 7 w := lc_hi (by decide) hi8
theorem hi6 : ∀ w, W6 w → Hi 6 w := lc_hi (by decide) hi7
theorem hi5 : ∀ w, W5 w → Hi 5 w := by
  rintro w (hb | ⟨ha, hs, hb⟩) x hx
  · exact (hi6 _ hb).down (by omega) x hx
  · rcases List.mem_append.mp hx with hx | hx
    · exact (hi6 _ ha).down (by omega) x hx
    · rcases List.mem_cons.mp hx with rfl | hx
      · exact hi_dec (L := cmpS) (by decide) hs
      · exact (hi6 _ hb).down (by omega) x hx
theorem hi4 : ∀ w, W4 w → Hi 4 w := by
  rintro w (hb | ⟨hs, hb⟩) x hx
  · exact (hi5 _ hb).down (by omega) x hx
  · rcases List.mem_cons.mp hx with rfl | hx
    · exact hi_dec (L := P4) (by decide) hs
    · exact (hi5 _ hb).down (by omega) x hx
theorem hi3 : ∀ w, W3 w → Hi 3 w := lc_hi (by decide) hi4
theorem hi2 : ∀ w, W2 w → Hi 2 w := lc_hi (by decide) hi3
theorem hi1 : ∀ w, W1 w → Hi 1 w := lc_hi (by decide) hi2
theorem Hi.no {k : Nat} {g : List Str} (h : Hi (k + 1) w) (hg : GR[k]? = some g) : ∀ x ∈ w, x ∉ g := fun x hx => h x hx k (by omega) g hg
def S8 (u : Str) : Prop := u ≠ Str.ofString "."
def S7 (u : Str) : Prop := u ∉ (["*"] : List Str) ∧ S8 u
def S6 (u : Str) : Prop := u ∉ (["+", "-"] : List Str) ∧ S7 u
def S5 (u : Str) : Prop := u ∉ cmpS ∧ S6 u
def S3 (u : Str) : Prop := u ∉ (["since"] : List Str) ∧ S5 u
def S2 (u : Str) : Prop := u ∉ (["and"] : List Str) ∧ S3 u
def S1 (u : Str) : Prop := u ∉ (["or"] : List Str) ∧ S2 u
def S0 (u : Str) : Prop := u ≠ Str.ofString "implies" ∧ S1 u
theorem mem_dec {L : List Str} {Q : Str → Prop} [DecidablePred Q] (h : (L.all fun x => decide (Q x)) = true) {s : Str} (hs : s ∈ L) : Q s := by simpa using List.all_eq_true.mp h s hs
def opF (s : Str) : D := if s ∈ MM then .tuple [.str "number", .int ((PySem.intText? s).getD 0)] else .tuple [.str "name", .str s]
theorem num_ok {s : Str} (hs : s ∈ MM) : PySem.intText? s = some ((PySem.intText? s).getD 0) ∧ s.length ≤ 640 := by
  have h : (MM.all fun x => decide ((PySem.intText? x).isSome = true ∧ x.length ≤ 640)) = true := by decide +kernel
  have := mem_dec (Q := fun x => (PySem.intText? x).isSome = true ∧ x.length ≤ 640) h hs
  obtain ⟨i, hi⟩ := Option.isSome_iff_exists.mp this.1
  exact ⟨by rw [hi]; rfl, this.2⟩
theorem op_tree {m : Nat} (hs : s ∈ NM ++ MM) : Tr' (m + 1) 8 [s] (opF s) := by
  refine lt8_one (mem_dec (L := NM ++ MM) (Q := fun x => x ≠ Str.ofString "neg") (by decide) hs) ?_
  unfold opF
  by_cases c : s ∈ MM
  · rw [if_pos c]
    obtain ⟨h1, h2⟩ := num_ok c
    exact .inl ⟨c, _, by show (if _ then _ else _) = _; rw [if_pos h2, h1]; rfl, rfl⟩
  · rw [if_neg c]
    exact .inr ⟨c, rfl⟩
theorem op_par {n : Nat} {lv : Int} {u : Tok'} (hs : s ∈ NM ++ MM) (h : At W p [s]) (hu : W[p + 1]? = some u) (hd : u.wd ≠ Str.ofString ".") : ∃ w : Tok', W[p]? = some w ∧ w.wd = s ∧ Pr W (n + 1) 9 p lv (p + 1) (opF s) 0 := by
  obtain ⟨x, x1, x2, x3, x4⟩ := h.head
  have e : tk s = s := mem_dec (L := NM ++ MM) (Q := fun x => tk x = x) (by decide) hs
  rw [e] at x2
  refine ⟨x, x1, x2, ?_⟩
  have n1 : x.wd ≠ Str.ofString "(" := by rw [x2]; exact mem_dec (L := NM ++ MM) (Q := fun x => x ≠ Str.ofString "(") (by decide) hs
  have n2 : x.wd ∉ minS := by rw [x2]; exact mem_dec (L := NM ++ MM) (Q := fun x => x ∉ minS) (by decide) hs
  unfold opF
  by_cases c : s ∈ MM
  · rw [if_pos c]
    obtain ⟨h1, h2⟩ := num_ok c
    exact at_leaf x1 n1 n2 (leaf_num x1 (x4 c) (by rw [x2]; exact h1) (by rw [x2]; exact h2))
  · rw [if_neg c]
    have cn : s ∈ NM := (List.mem_append.mp hs).resolve_right c
    have := leaf_name x1 (x3 cn) (by rw [x2]; exact mem_dec (L := NM) (Q := fun x => x ∉ resS) (by decide) cn) hu hd
    rw [x2] at this
    exact at_leaf x1 n1 n2 this
theorem op_al (s : Str) (n : Nat) : Al (n + 2) (opF s) := by
  unfold opF
  split <;> exact al_tup (by simp) fun e he => by
    simp only [List.mem_cons, List.not_mem_nil, or_false] at he
    rcases he with rfl | rfl <;> exact trivial
theorem g8 : ∀ w, W8 w → Gr 8 8 1 10 S8 w := by
  rintro w (hs | hs)
  · rename_i s
    refine ⟨opF s, 0, by omega, by simp, fun m hm => ?_, fun W p lv at' ⟨u, u1, u2⟩ hlv n hn => ?_, op_al _ _⟩
    · obtain ⟨m', rfl⟩ : ∃ m', m = m' + 1 := ⟨m - 1, by simp at hm; omega⟩
      exact op_tree hs
    · obtain ⟨n', rfl⟩ : ∃ n', n = n' + 1 + 1 := ⟨n - 2, by simp at hn; omega⟩
      obtain ⟨x, x1, x2, x3⟩ := op_par (n := n') (lv := lv) hs at' u1 u2
      exact ng0 x1 (by rw [x2]; exact mem_dec (L := NM ++ MM) (Q := fun x => x ≠ Str.ofString "-") (by decide) hs) x3
  · rename_i s
    refine ⟨.tuple [.str "negative", opF s], 0 + 1, by omega, by simp, fun m hm => ?_, fun W p lv at' ⟨u, u1, u2⟩ hlv n hn => ?_, al_tup (by simp) fun e he => by
      simp only [List.mem_cons, List.not_mem_nil, or_false] at he
      rcases he with rfl | rfl
      · exact trivial
      · exact op_al _ _⟩
    · obtain ⟨m', rfl⟩ : ∃ m', m = m' + 1 + 1 := ⟨m - 2, by simp at hm; omega⟩
      exact lt8_neg (op_tree hs)
    · obtain ⟨n', rfl⟩ : ∃ n', n = n' + 1 + 1 + 1 := ⟨n - 3, by simp at hn; omega⟩
      obtain ⟨y, y1, y2, _, _⟩ := at'.head
      obtain ⟨x, x1, x2, x3⟩ := op_par (n := n') (lv := lv + 1) hs at'.tail u1 u2
      exact ng1 y1 y2 (by omega) (ng0 x1 (by rw [x2]; exact mem_dec (L := NM ++ MM) (Q := fun x => x ≠ Str.ofString "-") (by decide) hs) x3)
end
end My

namespace My
open PySem L2 Pf
section
variable [PC_Cursor]
variable {W : List Tok'} {p : Nat} {a b w : List Str} {s : Str}
instance : DecidablePred S8 := fun u => by unfold S8; infer_instance
instance : DecidablePred S7 := fun u => by unfold S7; infer_instance
instance : DecidablePred S6 := fun u => by unfold S6; infer_instance
instance : DecidablePred S5 := fun u => by unfold S5; infer_instance
instance : DecidablePred S3 := fun u => by unfold S3; infer_instance
instance : DecidablePred S2 := fun u => by unfold S2; infer_instance
instance : DecidablePred S1 := fun u => by unfold S1; infer_instance
instance : DecidablePred S0 := fun u => by unfold S0; infer_instance
theorem comb_sum (h : s ∈ calcS) {k : Nat} (h5 : 5 < k) (t t1 : D) : comb s t t1 = comT k s t t1 := by
  unfold comb comT
  rw [if_pos h, if_neg (by omega), if_pos h5]
theorem comb_log (h : s ∉ calcS) {k : Nat} (h5 : k < 5) (t t1 : D) : comb s t t1 = comT k s t t1 := by
  unfold comb comT
  rw [if_neg h, if_neg (by omega), if_neg (by omega)]
theorem g7 : ∀ w, W7 w → w.length ≤ 4000 → Gr 7 7 3 10 S7 w :=
  lc_gr (k := 7) jn_mul rfl (by decide) (by decide) (by decide) (fun w hw _ => g8 w hw) (fun w hw => (hi8 w hw).no (k := 7) rfl) (fun s hs => mem_dec (L := ["*"]) (Q := fun x => S8 x ∧ tk x = x) (by decide) hs)
    fun s hs => comb_sum (mem_dec (L := ["*"]) (Q := fun x => x ∈ calcS) (by decide) hs) (by decide)
theorem g6 : ∀ w, W6 w → w.length ≤ 4000 → Gr 6 6 5 10 S6 w :=
  lc_gr (k := 6) jn_sum rfl (by decide) (by decide) (by decide) g7 (fun w hw => (hi7 w hw).no (k := 6) rfl) (fun s hs => mem_dec (L := ["+", "-"]) (Q := fun x => S7 x ∧ tk x = x) (by decide) hs)
    fun s hs => comb_sum (mem_dec (L := ["+", "-"]) (Q := fun x => x ∈ calcS) (by decide) hs) (by decide)
theorem g5 : ∀ w, W5 w → w.length ≤ 4000 → Gr 5 5 6 10 S5 w := by
  rintro w (hb | ⟨ha, hs, hb⟩) hl
  · obtain ⟨t, h, g1, g2, g3, g4⟩ := g6 _ hb hl
    refine ⟨t, h, g1, g2, fun m hm => ?_, fun W p lv at' ⟨u, u1, u2⟩ hlv n hn => ?_, g4.2⟩
    · obtain ⟨m', rfl⟩ : ∃ m', m = m' + 1 := ⟨m - 1, by omega⟩
      exact lt_up (k := 5) rfl (by decide) (by decide) hl ((hi6 _ hb).no (k := 5) rfl) (g3 m' (by omega))
    · obtain ⟨n', rfl⟩ : ∃ n', n = n' + 1 := ⟨n - 1, by omega⟩
      exact cm0 (g4.1 W p lv at' ⟨u, u1, u2.2⟩ hlv n' (by omega)) u1 u2.1
  · rename_i a b s
    have ln : (a ++ s :: b).length = a.length + (b.length + 1) := by simp
    rw [ln] at hl
    obtain ⟨t, h, g1, g2, g3, g4⟩ := g6 _ ha (by omega)
    obtain ⟨t2, h2, q1, q2, q3, q4⟩ := g6 _ hb (by omega)
    have sd := mem_dec (L := cmpS) (Q := fun x => S6 x ∧ tk x = x) (by decide) hs
    refine ⟨.tuple [.str "compare", .str s, t, t2], 1 + max h h2, by omega, by rw [ln]; omega, fun m hm => ?_, fun W p lv at' ⟨u, u1, u2⟩ hlv n hn => ?_, by
      rw [ln]
      exact al_tup (by simp) fun e he => by
        simp only [List.mem_cons, List.not_mem_nil, or_false] at he
        rcases he with rfl | rfl | rfl | rfl
        · exact trivial
        · exact trivial
        · exact g4.2.up _ (by omega)
        · exact q4.2.up _ (by omega)⟩
    · rw [ln] at hm
      obtain ⟨m', rfl⟩ : ∃ m', m = m' + 1 + 1 := ⟨m - 2, by omega⟩
      exact lt_left (k := 5) rfl (by decide) (by decide) (by decide) (by rw [ln]; omega) hs ((hi6 _ hb).no (k := 5) rfl) (lt_up (k := 5) rfl (by decide) (by decide) (by omega) ((hi6 _ ha).no (k := 5) rfl) (g3 m' (by omega))) (q3 (m' + 1) (by omega))
    · rw [ln] at u1 hn
      obtain ⟨n', rfl⟩ : ∃ n', n = n' + 1 := ⟨n - 1, by omega⟩
      obtain ⟨x, x1, x2, _, _⟩ := (At.right at').head
      rw [sd.2] at x2
      have z := cm1 (g4.1 W p lv at'.left ⟨x, x1, by rw [x2]; exact sd.1⟩ hlv n' (by omega)) x1 (by rw [x2]; exact hs) (q4.1 W (p + a.length + 1) lv (At.tail (At.right at')) ⟨u, by rwa [show p + a.length + 1 + b.length = p + (a.length + (b.length + 1)) by omega], u2.2⟩ hlv n' (by omega))
      rw [x2] at z
      rwa [show p + (a ++ s :: b).length = p + a.length + 1 + b.length by rw [ln]; omega]
def OPN : List Str := NM ++ MM ++ [Str.ofString "neg"]
theorem hd8 : ∀ w, W8 w → ∃ s w', w = s :: w' ∧ s ∈ OPN := by
  rintro w (hs | hs)
  · exact ⟨_, _, rfl, List.mem_append.mpr (.inl hs)⟩
  · exact ⟨_, _, rfl, by decide⟩
theorem hdL {S : List Str} {B : List Str → Prop} (hB : ∀ w, B w → ∃ s w', w = s :: w' ∧ s ∈ OPN) : ∀ w, LC S B w → ∃ s w', w = s :: w' ∧ s ∈ OPN := by
  intro w hw
  induction hw with
  | base hb => exact hB _ hb
  | step _ _ _ ih =>
    obtain ⟨s, w', rfl, h⟩ := ih
    exact ⟨s, _, rfl, h⟩
theorem hd5 : ∀ w, W5 w → ∃ s w', w = s :: w' ∧ s ∈ OPN := by
  rintro w (hb | ⟨ha, hs, hb⟩)
  · exact hdL (hdL hd8) _ hb
  · obtain ⟨s, w', rfl, h⟩ := hdL (hdL hd8) _ ha
    exact ⟨s, _, rfl, h⟩
theorem g4b : ∀ w, W5 w → w.length ≤ 4000 → Gr 4 4 7 10 S5 w := by
  intro w hw hl
  obtain ⟨t, h, g1, g2, g3, g4⟩ := g5 w hw hl
  obtain ⟨s, w', rfl, hs⟩ := hd5 w hw
  refine ⟨t, h, g1, g2, fun m hm => ?_, fun W p lv at' u hlv n hn => ?_, g4.2⟩
  · obtain ⟨m', rfl⟩ : ∃ m', m = m' + 1 := ⟨m - 1, by omega⟩
    exact lt4_same (s := s) rfl (mem_dec (L := OPN) (Q := fun x => x ∉ (["not", "before", "once"] : List Str)) (by decide) hs) (g3 m' (by omega))
  · obtain ⟨n', rfl⟩ : ∃ n', n = n' + 1 := ⟨n - 1, by omega⟩
    obtain ⟨x, x1, x2, _, _⟩ := at'.head
    exact pf0 x1 (by rw [x2]; exact mem_dec (L := OPN) (Q := fun x => tk x ∉ preS) (by decide) hs) (g4.1 W p lv at' u hlv n' (by omega))
theorem g4 : ∀ w, W4 w → w.length ≤ 4000 → Gr 4 4 7 9 S5 w := by
  rintro w (hb | ⟨hs, hb⟩) hl
  · obtain ⟨t, h, g1, g2, g3, g4⟩ := g4b _ hb hl
    exact ⟨t, h, g1, g2, g3, fun W p lv at' u hlv => g4.1 W p lv at' u (by omega), g4.2⟩
  · rename_i w s
    have ln : (s :: w).length = w.length + 1 := rfl
    obtain ⟨t, h, g1, g2, g3, g4⟩ := g4b _ hb (by omega)
    obtain ⟨s2, w', e2, hs2⟩ := hd5 w hb
    have sd := mem_dec (L := P4) (Q := fun x => tk x = x ∧ x ∈ preS ∧ x ≠ Str.ofString "all" ∧ (x ∈ timS ↔ x = Str.ofString "once")) (by decide) hs
    refine ⟨if s = Str.ofString "once" then .tuple [.str s, .none, t] else .tuple [.str s, t], h + 1, by omega, by rw [ln]; omega, fun m hm => ?_, fun W p lv at' u hlv n hn => ?_, by
      rw [ln]
      have A := g4.2.up (w.length + 1 + 1) (by omega)
      split <;> exact al_tup (by simp) fun e he => by
        simp only [List.mem_cons, List.not_mem_nil, or_false] at he
        first
          | (rcases he with rfl | rfl | rfl; exact trivial; exact trivial; exact A)
          | (rcases he with rfl | rfl; exact trivial; exact A)⟩
    · obtain ⟨m', rfl⟩ : ∃ m', m = m' + 1 := ⟨m - 1, by omega⟩
      exact lt4_pre hs (g3 m' (by rw [ln] at hm; omega))
    · rw [ln] at u hn
      obtain ⟨n', rfl⟩ : ∃ n', n = n' + 1 := ⟨n - 1, by omega⟩
      obtain ⟨x, x1, x2, _, _⟩ := at'.head
      rw [sd.1] at x2
      have tl := at'.tail
      have z := pf_run x1 (by rw [x2]; exact sd.2.1) (by rw [x2]; exact sd.2.2.1) (by omega : lv ≠ 12) (fun _ => by
        rw [e2] at tl
        obtain ⟨y, y1, y2, _, _⟩ := tl.head
        exact ⟨y, y1, by rw [y2]; exact mem_dec (L := OPN) (Q := fun x => tk x ≠ Str.ofString "[") (by decide) hs2⟩) (g4.1 W (p + 1) (lv + 1) at'.tail (by rwa [show p + 1 + w.length = p + (w.length + 1) by omega]) (by omega) n' (by omega))
      rw [x2] at z
      rw [show p + (s :: w).length = p + 1 + w.length by rw [ln]; omega]
      by_cases c : s = Str.ofString "once"
      · rw [if_pos (sd.2.2.2.mpr c)] at z
        rw [if_pos c]
        exact z
      · rw [if_neg fun q => c (sd.2.2.2.mp q)] at z
        rw [if_neg c]
        exact z
theorem g3 : ∀ w, W3 w → w.length ≤ 4000 → Gr 3 3 9 9 S3 w :=
  lc_gr (k := 3) jn_since rfl (by decide) (by decide) (by decide) g4 (fun w hw => (hi4 w hw).no (k := 3) rfl) (fun s hs => mem_dec (L := ["since"]) (Q := fun x => S5 x ∧ tk x = x) (by decide) hs)
    fun s hs => comb_log (mem_dec (L := ["since"]) (Q := fun x => x ∉ calcS) (by decide) hs) (by decide)
theorem g2 : ∀ w, W2 w → w.length ≤ 4000 → Gr 2 2 11 9 S2 w :=
  lc_gr (k := 2) jn_and rfl (by decide) (by decide) (by decide) g3 (fun w hw => (hi3 w hw).no (k := 2) rfl) (fun s hs => mem_dec (L := ["and"]) (Q := fun x => S3 x ∧ tk x = x) (by decide) hs)
    fun s hs => comb_log (mem_dec (L := ["and"]) (Q := fun x => x ∉ calcS) (by decide) hs) (by decide)
theorem g1 : ∀ w, W1 w → w.length ≤ 4000 → Gr 1 1 13 9 S1 w :=
  lc_gr (k := 1) jn_or rfl (by decide) (by decide) (by decide) g2 (fun w hw => (hi2 w hw).no (k := 1) rfl) (fun s hs => mem_dec (L := ["or"]) (Q := fun x => S2 x ∧ tk x = x) (by decide) hs)
    fun s hs => comb_log (mem_dec (L := ["or"]) (Q := fun x => x ∉ calcS) (by decide) hs) (by decide)
def cI (w : List Str) : Nat := w.count (Str.ofString "implies")
theorem g0 : ∀ w, W0 w → w.length ≤ 4000 → Gr 0 0 14 (9 - cI w) S0 w := by
  intro w hw
  induction hw with
  | @base w hb =>
    intro hl
    obtain ⟨t, h, g1, g2, g3, g4⟩ := g1 _ hb hl
    refine ⟨t, h, g1, g2, fun m hm => ?_, fun W p lv at' ⟨u, u1, u2⟩ hlv n hn => ?_, g4.2⟩
    · obtain ⟨m', rfl⟩ : ∃ m', m = m' + 1 := ⟨m - 1, by omega⟩
      exact lt_up (k := 0) rfl (by decide) (by decide) hl ((hi1 _ hb).no (k := 0) rfl) (g3 m' (by omega))
    · obtain ⟨n', rfl⟩ : ∃ n', n = n' + 1 := ⟨n - 1, by omega⟩
      exact ex0 (g4.1 W p lv at' ⟨u, u1, u2.2⟩ (by omega) n' (by omega)) u1 u2.1
  | @imp a b ha hb ih =>
    intro hl
    have ln : (a ++ Str.ofString "implies" :: b).length = a.length + (b.length + 1) := by simp
    have cn : cI (a ++ Str.ofString "implies" :: b) = cI a + (cI b + 1) := by unfold cI; rw [List.count_append, List.count_cons_self]
    rw [ln] at hl
    obtain ⟨t, h, g1, g2, g3, g4⟩ := g1 _ ha (by omega)
    obtain ⟨t2, h2, q1, q2, q3, q4⟩ := ih (by omega)
    refine ⟨.tuple [.str "implies", t, t2], 1 + max h h2, by omega, by rw [ln]; omega, fun m hm => ?_, fun W p lv at' ⟨u, u1, u2⟩ hlv n hn => ?_, by
      rw [ln]
      exact al_tup (by simp) fun e he => by
        simp only [List.mem_cons, List.not_mem_nil, or_false] at he
        rcases he with rfl | rfl | rfl
        · exact trivial
        · exact g4.2.up _ (by omega)
        · exact q4.2.up _ (by omega)⟩
    · rw [ln] at hm
      obtain ⟨m', rfl⟩ : ∃ m', m = m' + 1 := ⟨m - 1, by omega⟩
      exact lt_imp (by rw [ln]; omega) rfl ((hi1 _ ha).no (k := 0) rfl) (g3 m' (by omega)) (q3 m' (by omega))
    · rw [ln] at u1 hn
      rw [cn] at hlv
      obtain ⟨n', rfl⟩ : ∃ n', n = n' + 1 := ⟨n - 1, by omega⟩
      obtain ⟨x, x1, x2, _, _⟩ := (At.right at').head
      have x2 : x.wd = Str.ofString "implies" := x2
      have z := ex1 (g4.1 W p lv at'.left ⟨x, x1, by rw [x2]; decide⟩ (by omega) n' (by omega)) x1 x2 (by omega) (q4.1 W (p + a.length + 1) (lv + 1) (At.tail (At.right at')) ⟨u, by rwa [show p + a.length + 1 + b.length = p + (a.length + (b.length + 1)) by omega], u2⟩ (by omega) n' (by omega))
      rwa [show p + (a ++ Str.ofString "implies" :: b).length = p + a.length + 1 + b.length by rw [ln]; omega]
end
end My

namespace My
open PySem L2 Pf
def tx (cs : List Nat) : Str := ⟨cs.toArray⟩
def tS (cs : List Nat) : D := .str (tx cs)
theorem tx_cps (cs : List Nat) : (tx cs).cps.toList = cs := rfl
theorem tx_len (cs : List Nat) : (tx cs).length = cs.length := by
  show cs.toArray.size = _
  simp
theorem tx_of (z : Str) : z = tx z.cps.toList := by
  obtain ⟨c⟩ := z
  show Str.mk c = Str.mk c.toList.toArray
  rw [Array.toArray_toList]
theorem tx_inj {a b : List Nat} (h : tx a = tx b) : a = b := by
  have := congrArg (fun z : Str => z.cps.toList) h
  exact this
theorem tx_beq (a b : List Nat) : (tx a == tx b) = decide (a = b) := by
  by_cases h : a = b
  · subst h; simp
  · rw [decide_eq_false h]
    exact beq_false_of_ne fun e => h (tx_inj e)
theorem tx_add (a b : List Nat) : tx a ++ tx b = tx (a ++ b) := by
  show Str.mk (a.toArray ++ b.toArray) = Str.mk (a ++ b).toArray
  simp
theorem tx_lenD {cs : List Nat} (h : cs.length ≤ 16777216) : lenD [tS cs] = some (.int cs.length) := by
  show (if (tx cs).length ≤ 16777216 then some (PyData.int (tx cs).length) else none) = _
  rw [tx_len, if_pos h]
theorem tx_pAdd {a b : List Nat} (h : a.length + b.length ≤ 16777216) : pAdd (tS a) (tS b) = some (tS (a ++ b)) := by
  show (if (tx a).length + (tx b).length ≤ 16777216 then some (PyData.str (tx a ++ tx b)) else none) = _
  rw [tx_len, tx_len, if_pos h, tx_add]
  rfl
theorem tx_ix {cs : List Nat} {p c : Nat} (h : cs.length ≤ 16777216) (hc : cs[p]? = some c) : pIx (tS cs) (.int p) = some (tS [c]) := by
  show (if (tx cs).length ≤ 16777216 then (atI (tx cs).cps.toList (p : Int)).map fun c => PyData.str ⟨#[c]⟩ else none) = _
  rw [tx_len, if_pos h, tx_cps, atI_lit cs p hc]
  rfl
theorem tx_inD (c : Nat) (ws : List Nat) : inD (tS [c]) (tS ws) = some (decide (c ∈ ws)) := by
  show some (!(Builtin.Str.occurrences (tx ws) (tx [c]) 0 (tx ws).length 1).isEmpty) = _
  have := StrLaws.found_one (tx ws) c
  rw [tx_cps] at this
  rw [← this]
  rfl
theorem tx_in (c : Nat) (ws : List Nat) : pIn (tS [c]) (tS ws) = some (.bool (decide (c ∈ ws))) := by
  unfold pIn
  rw [tx_inD]
  rfl
theorem tx_eq (a b : List Nat) : pEq (tS a) (tS b) = some (.bool (decide (a = b))) := by
  show pEq (.str (tx a)) (.str (tx b)) = _
  rw [pEq_str, tx_beq]
theorem sIx_nat (n d k : Nat) : HT.sIx n d (some (k : Int)) = min k n := by
  unfold HT.sIx
  show (if (k : Int) < 0 then ((k : Int) + (n : Int)).toNat else min (k : Int).toNat n) = _
  rw [if_neg (by omega), Int.toNat_natCast]
theorem tx_cut {cs : List Nat} (h : cs.length ≤ 16777216) (lo hi : Nat) : pSlS (tS cs) (some (lo : Int)) (some (hi : Int)) = some (tS ((cs.drop lo).take (hi - lo))) := by
  show (if (tx cs).length ≤ 16777216 then some (PyData.str (cutS (tx cs) (some (lo : Int)) (some (hi : Int)))) else none) = _
  rw [tx_len, if_pos h]
  unfold cutS
  rw [sIx_nat, sIx_nat, tx_cps, tx_len]
  congr 2
  show Str.mk _ = Str.mk _
  congr 2
  by_cases c : lo ≤ cs.length
  · rw [Nat.min_eq_left c]
    by_cases c2 : hi ≤ cs.length
    · rw [Nat.min_eq_left c2]
    · rw [Nat.min_eq_right (by omega), List.take_of_length_le (by rw [List.length_drop]; omega), List.take_of_length_le (by rw [List.length_drop]; omega)]
  · rw [Nat.min_eq_right (a := lo) (by omega), List.drop_eq_nil_of_le (Nat.le_refl _), List.drop_eq_nil_of_le (by omega)]
    simp
theorem fromIx (n p : Nat) : fromIndex n (p : Int) = p := by
  unfold fromIndex
  rw [if_neg (by omega)]
  omega
theorem tx_sw {cs s : List Nat} {p : Nat} (hp : p ≤ cs.length) : Txt.startswith3 (tx cs) (tx s) (p : Int) = decide ((cs.drop p).take s.length = s) := by
  unfold Txt.startswith3
  rw [fromIx, StrLaws.subAt_eq, tx_len, tx_len, tx_cps, tx_cps]
  by_cases c : (cs.drop p).take s.length = s
  · have l := congrArg List.length c
    rw [List.length_take, List.length_drop] at l
    rw [decide_eq_true c, c, decide_eq_true (by omega)]
    simp
  · rw [decide_eq_false c]
    have : (List.take s.length (List.drop p cs) == s) = false := beq_false_of_ne c
    rw [this, Bool.and_false]
theorem tw_le {P : Nat → Bool} : ∀ r : List Nat, (r.takeWhile P).length ≤ r.length
  | [] => Nat.le_refl _
  | c :: r => by
    rw [List.takeWhile_cons]
    split
    · have := tw_le (P := P) r
      simp only [List.length_cons]
      omega
    · exact Nat.zero_le _
theorem tw_in {P : Nat → Bool} : ∀ (r : List Nat) (j : Nat), j < (r.takeWhile P).length → ∃ c, r[j]? = some c ∧ P c = true
  | [], j, h => by simp at h
  | c :: r, j, h => by
    rw [List.takeWhile_cons] at h
    by_cases k : P c = true
    · rw [if_pos k, List.length_cons] at h
      cases j with
      | zero => exact ⟨c, rfl, k⟩
      | succ j =>
        obtain ⟨d, h1, h2⟩ := tw_in (P := P) r j (by omega)
        exact ⟨d, h1, h2⟩
    · rw [if_neg k] at h
      exact absurd h (Nat.not_lt_zero _)
theorem tw_out {P : Nat → Bool} : ∀ (r : List Nat) (c : Nat), r[(r.takeWhile P).length]? = some c → P c = false
  | [], c, h => by simp at h
  | d :: r, c, h => by
    rw [List.takeWhile_cons] at h
    by_cases k : P d = true
    · rw [if_pos k, List.length_cons, List.getElem?_cons_succ] at h
      exact tw_out r c h
    · rw [if_neg k] at h
      have h : some d = some c := h
      cases h
      cases e : P d with
      | true => exact absurd e k
      | false => rfl
theorem tw_take {P : Nat → Bool} : ∀ r : List Nat, r.take (r.takeWhile P).length = r.takeWhile P
  | [] => rfl
  | c :: r => by
    rw [List.takeWhile_cons]
    by_cases k : P c = true
    · rw [if_pos k, List.length_cons, List.take_succ_cons, tw_take r]
    · rw [if_neg k]
      rfl
theorem getD_drop (cs : List Nat) (p j : Nat) : (tx cs).cps.getD (p + j) 0 = ((cs.drop p)[j]?).getD 0 := by
  rw [List.getElem?_drop]
  show cs.toArray.getD (p + j) 0 = _
  rw [Array.getD_eq_getD_getElem?]
  simp
theorem tx_find {cs : List Nat} {p c : Nat} (hp : p ≤ cs.length) : (Txt.find3 (tx cs) (tx [c]) (p : Int) = -1 ∧ p + ((cs.drop p).takeWhile (· != c)).length = cs.length) ∨
    (Txt.find3 (tx cs) (tx [c]) (p : Int) = ((p + ((cs.drop p).takeWhile (· != c)).length : Nat) : Int) ∧ p + ((cs.drop p).takeWhile (· != c)).length < cs.length) := by
  have le := tw_le (P := (· != c)) (cs.drop p)
  rw [List.length_drop] at le
  have sp := StrLaws.find3_spec (tx cs) c (p : Int)
  rw [fromIx, tx_len] at sp
  rcases sp with ⟨e, h⟩ | ⟨k, e, h1, h2, h3, h4⟩
  · refine .inl ⟨e, ?_⟩
    rcases Nat.lt_or_ge (p + ((cs.drop p).takeWhile (· != c)).length) cs.length with q | q
    · exfalso
      obtain ⟨d, hd⟩ : ∃ d, (cs.drop p)[((cs.drop p).takeWhile (· != c)).length]? = some d := by
        refine ⟨_, List.getElem?_eq_getElem ?_⟩
        rw [List.length_drop]
        omega
      have o := tw_out _ d hd
      have g := h (p + ((cs.drop p).takeWhile (· != c)).length) (by omega) q
      rw [getD_drop, hd] at g
      exact g (by simpa using o)
    · omega
  · refine .inr ?_
    have key : ((cs.drop p).takeWhile (· != c)).length = k - p := by
      rcases Nat.lt_trichotomy ((cs.drop p).takeWhile (· != c)).length (k - p) with q | q | q
      · exfalso
        obtain ⟨d, hd⟩ : ∃ d, (cs.drop p)[((cs.drop p).takeWhile (· != c)).length]? = some d := by
          refine ⟨_, List.getElem?_eq_getElem ?_⟩
          rw [List.length_drop]
          omega
        have o := tw_out _ d hd
        have g := h4 (p + ((cs.drop p).takeWhile (· != c)).length) (by omega) (by omega)
        rw [getD_drop, hd] at g
        exact g (by simpa using o)
      · exact q
      · exfalso
        obtain ⟨d, hd, hP⟩ := tw_in _ (k - p) q
        have g := getD_drop cs p (k - p)
        rw [show p + (k - p) = k by omega, h3, hd] at g
        have g : c = d := g
        simp [g] at hP
    rw [key]
    have ek : p + (k - p) = k := by omega
    rw [ek]
    exact ⟨e, h2⟩
def nls (ws : List Nat) : Nat := ws.count 10
def tl (ws : List Nat) : Nat := (ws.reverse.takeWhile (· != 10)).length
theorem tw_app {P : Nat → Bool} {r t : List Nat} : (∀ c ∈ r, P c = true) → (r ++ t).takeWhile P = r ++ t.takeWhile P := by
  induction r with
  | nil => intro _; rfl
  | cons c r ih =>
    intro h
    rw [List.cons_append, List.takeWhile_cons, if_pos (h c List.mem_cons_self), ih fun d hd => h d (List.mem_cons_of_mem _ hd)]
    rfl
theorem no10 {b : List Nat} (h : 10 ∉ b) : ∀ c ∈ b.reverse, (c != 10) = true := fun c hc => by
  have : c ≠ 10 := fun e => h (by rw [← e]; exact List.mem_reverse.mp hc)
  simpa using this
theorem tl_some {a b : List Nat} (h : 10 ∉ b) : tl (a ++ 10 :: b) = b.length := by
  unfold tl
  rw [List.reverse_append, List.reverse_cons, List.append_assoc, tw_app (no10 h)]
  simp
theorem tl_app {ws w : List Nat} (h : 10 ∉ w) : tl (ws ++ w) = tl ws + w.length := by
  unfold tl
  rw [List.reverse_append, tw_app (no10 h), List.length_append, List.length_reverse]
  omega
theorem tl_nl {ws : List Nat} : tl (ws ++ [10]) = 0 := tl_some (b := []) (by simp)
theorem nls_app {ws w : List Nat} (h : 10 ∉ w) : nls (ws ++ w) = nls ws := by
  unfold nls
  rw [List.count_append, List.count_eq_zero.mpr h, Nat.add_zero]
theorem nls_nl {ws : List Nat} : nls (ws ++ [10]) = nls ws + 1 := by
  unfold nls
  rw [List.count_append]
  rfl
end My

namespace My
open PySem L2 Pf
def Bc : List Nat := [32, 9, 10]
def Lc : List Nat := (Str.ofString "abcdefghijklmnopqrstuvwxyzABCDEFGHIJKLMNOPQRSTUVWXYZ_").cps.toList
def Dc : List Nat := (Str.ofString "0123456789").cps.toList
def SG : List (List Nat) := ([":=", "..", "<=", ">=", "!=", "+-", "{", "}", "(", ")", "[", "]", ";", ":", ",", ".", "<", ">", "=", "+", "-", "*"] : List Str).map fun s => s.cps.toList
def tw (P : Nat → Bool) (cs : List Nat) (p : Nat) : Nat := ((cs.drop p).takeWhile P).length
def inP (ws : List Nat) (c : Nat) : Bool := decide (c ∈ ws)
theorem tw_bound {P : Nat → Bool} {cs : List Nat} {p : Nat} (hp : p ≤ cs.length) : p + tw P cs p ≤ cs.length := by
  have := tw_le (P := P) (cs.drop p)
  rw [List.length_drop] at this
  unfold tw
  omega
theorem tw_lt {P : Nat → Bool} {cs : List Nat} {p s : Nat} (h1 : p ≤ s) (h2 : s < p + tw P cs p) : ∃ d, cs[s]? = some d ∧ P d = true := by
  obtain ⟨d, h, k⟩ := tw_in (P := P) (cs.drop p) (s - p) (by unfold tw at h2; omega)
  rw [List.getElem?_drop, show p + (s - p) = s by omega] at h
  exact ⟨d, h, k⟩
theorem tw_end {P : Nat → Bool} {cs : List Nat} {p d : Nat} (h : cs[p + tw P cs p]? = some d) : P d = false := by
  refine tw_out (cs.drop p) d ?_
  rw [List.getElem?_drop]
  exact h
theorem at_lt {cs : List Nat} {p c : Nat} (h : cs[p]? = some c) : p < cs.length := (List.getElem?_eq_some_iff.mp h).1
theorem lt_at {cs : List Nat} {p : Nat} (h : p < cs.length) : ∃ c, cs[p]? = some c := ⟨_, List.getElem?_eq_getElem h⟩
section
variable {cs : List Nat} {p : Nat} (hN : cs.length ≤ 4000)
include hN
theorem lenT : lenD [tS cs] = some (.int cs.length) := tx_lenD (by omega)
theorem length_eq (hp : p ≤ cs.length) (ws : List Nat) : F_length_of [tS cs, .int (p : Int), tS ws] = some (.int (tw (inP ws) cs p : Nat)) := by
  have bd := tw_bound (P := inP ws) hp
  have key := while_inv (c := tAndF (tV (e2 pLt (eV 3) (eL lenD (aC (eV 0) aN)))) (tV (e2 pIn (e2 pIx (eV 0) (eV 3)) (eV 2)))) (body := L_length_of_1)
    (fun n e => ∃ s : Nat, e = [tS cs, .int (p : Int), tS ws, .int (s : Int)] ∧ p ≤ s ∧ s + n = p + tw (inP ws) cs p)
    (fun e => e = [tS cs, .int (p : Int), tS ws, .int ((p + tw (inP ws) cs p : Nat) : Int)]) (by
      rintro n e ⟨s, rfl, h1, h2⟩
      have t1 : tV (e2 pLt (eV 3) (eL lenD (aC (eV 0) aN))) [tS cs, .int (p : Int), tS ws, .int (s : Int)] = some (decide ((s : Int) < (cs.length : Int))) := tV_ok (e2_ok rfl (eL_ok (aC_ok rfl rfl) (lenT hN)) rfl)
      have t2 : ∀ d, cs[s]? = some d → tV (e2 pIn (e2 pIx (eV 0) (eV 3)) (eV 2)) [tS cs, .int (p : Int), tS ws, .int (s : Int)] = some (decide (d ∈ ws)) := fun d hd => tV_ok (e2_ok (e2_ok rfl rfl (tx_ix (by omega) hd)) rfl (tx_in d ws))
      by_cases n0 : n = 0
      · refine .inl ⟨?_, by rw [show s = p + tw (inP ws) cs p by omega]⟩
        by_cases c : s < cs.length
        · obtain ⟨d, hd⟩ := lt_at c
          rw [decide_eq_true (by omega)] at t1
          rw [tand_tt t1, t2 d hd]
          have : inP ws d = false := tw_end (P := inP ws) (p := p) (by rw [show p + tw (inP ws) cs p = s by omega]; exact hd)
          exact congrArg some this
        · rw [decide_eq_false (by omega)] at t1
          exact tand_ff t1
      · obtain ⟨d, hd, hP⟩ := tw_lt (P := inP ws) h1 (show s < p + tw (inP ws) cs p by omega)
        have := at_lt hd
        rw [decide_eq_true (by omega)] at t1
        refine .inr ⟨by rw [tand_tt t1, t2 d hd]; exact congrArg some hP, ?_⟩
        have b : L_length_of_1 [tS cs, .int (p : Int), tS ws, .int (s : Int)] = some (.nx [tS cs, .int (p : Int), tS ws, .int ((s + 1 : Nat) : Int)]) := rfl
        rw [b]
        exact ⟨n - 1, by omega, s + 1, rfl, by omega, by omega⟩)
  obtain ⟨e', w, rfl⟩ := key (tw (inP ws) cs p) [tS cs, .int (p : Int), tS ws, .int (p : Int)] ⟨p, rfl, Nat.le_refl _, rfl⟩
  refine runF_rt rfl ?_
  show B_length_of [tS cs, .int (p : Int), tS ws, .none] = _
  have s3 : sSet 3 (eV 1) [tS cs, .int (p : Int), tS ws, .none] = some (.nx [tS cs, .int (p : Int), tS ws, .int (p : Int)]) := rfl
  unfold B_length_of
  rw [r_seq, s3, r_nx, r_seq, w, r_nx]
  refine ret_rt ((e2_ok rfl rfl rfl : _ = some (PyData.int (((p + tw (inP ws) cs p : Nat) : Int) - (p : Int)))).trans ?_)
  congr 2
  omega
theorem comment_eq (hp : p ≤ cs.length) : F_comment_length [tS cs, .int (p : Int)] = some (.int (tw (· != 10) cs p : Nat)) := by
  refine runF_rt rfl ?_
  show B_comment_length [tS cs, .int (p : Int), .none] = _
  have ln := lenT hN
  unfold B_comment_length
  rcases tx_find (c := 10) hp with ⟨e, h⟩ | ⟨e, h⟩
  · have s2 : sSet 2 (eM (mSI fun x y i => .int (Txt.find3 x y i)) (eV 0) (aC (eC (.str (Str.ofString "\n"))) (aC (eV 1) aN))) [tS cs, .int (p : Int), .none] = some (.nx [tS cs, .int (p : Int), .int (-1)]) := set_nx (by
      show some (PyData.int (Txt.find3 (tx cs) (tx [10]) (p : Int))) = _
      rw [e])
    rw [r_seq, s2, r_nx, r_seq, if_tt (by rfl)]
    have s3 : sSet 2 (eL lenD (aC (eV 0) aN)) [tS cs, .int (p : Int), .int (-1)] = some (.nx [tS cs, .int (p : Int), .int (cs.length : Int)]) := set_nx (eL_ok (aC_ok rfl rfl) ln)
    rw [s3, r_nx]
    refine ret_rt ((e2_ok rfl rfl rfl : _ = some (PyData.int ((cs.length : Int) - (p : Int)))).trans ?_)
    unfold tw
    congr 2
    omega
  · have s2 : sSet 2 (eM (mSI fun x y i => .int (Txt.find3 x y i)) (eV 0) (aC (eC (.str (Str.ofString "\n"))) (aC (eV 1) aN))) [tS cs, .int (p : Int), .none] = some (.nx [tS cs, .int (p : Int), .int ((p + tw (· != 10) cs p : Nat) : Int)]) := set_nx (by
      show some (PyData.int (Txt.find3 (tx cs) (tx [10]) (p : Int))) = _
      rw [e]
      rfl)
    have t : tV (e2 pEq (eV 2) (e1 pNeg (eC (.int 1)))) [tS cs, .int (p : Int), .int ((p + tw (· != 10) cs p : Nat) : Int)] = some false := tV_ok (e2_ok rfl rfl (by
      rw [pEq_int]
      exact congrArg (fun b => some (PyData.bool b)) (beq_false_of_ne (by omega))))
    rw [r_seq, s2, r_nx, r_seq, if_ff t, r_skip, r_nx]
    exact ret_rt ((e2_ok rfl rfl rfl : _ = some (PyData.int (((p + tw (· != 10) cs p : Nat) : Int) - (p : Int)))).trans (congrArg (fun z => some (PyData.int z)) (by omega)))
def one (cs : List Nat) (p c : Nat) : Str × Nat :=
  if c ∈ Bc then (Str.ofString "blank", 1) else if c = 35 then (Str.ofString "blank", tw (· != 10) cs p) else if c ∈ Lc then (Str.ofString "word", tw (inP (Lc ++ Dc)) cs p) else if c ∈ Dc then (Str.ofString "number", tw (inP Dc) cs p)
  else match SG.find? fun s => decide ((cs.drop p).take s.length = s) with
    | some s => (Str.ofString "sign", s.length)
    | none => (Str.ofString "unknown", 1)
end
end My

namespace My
open PySem L2 Pf
section
variable {cs : List Nat} {p c : Nat} (hN : cs.length ≤ 4000) (hc : cs[p]? = some c)
theorem then_rt {o : Option Out} {d : D} {g : SF} (h : o = some (.rt d)) : thenO o g = some (.rt d) := by rw [h]; rfl
theorem add_ld (env : List D) : e2 pAdd (eC (.str (Str.ofString "abcdefghijklmnopqrstuvwxyzABCDEFGHIJKLMNOPQRSTUVWXYZ_"))) (eC (.str (Str.ofString "0123456789"))) env = some (tS (Lc ++ Dc)) := e2_ok rfl rfl (tx_pAdd (a := Lc) (b := Dc) (by decide +kernel))
include hN hc
theorem sg_loop : ∀ (gs : List (List Nat)) (x3 : D), (∀ s ∈ gs, s.length ≤ 100) → match gs.find? fun s => decide ((cs.drop p).take s.length = s) with
    | some s => sFor (gN 3) L_find_piece_1 (gs.map tS) [tS cs, .int (p : Int), tS [c], x3] = some (.rt (.tuple [.str (Str.ofString "sign"), .int (s.length : Nat)]))
    | none => ∃ y3, sFor (gN 3) L_find_piece_1 (gs.map tS) [tS cs, .int (p : Int), tS [c], x3] = some (.nx [tS cs, .int (p : Int), tS [c], y3])
  | [], x3, _ => ⟨x3, rfl⟩
  | s :: gs, x3, hs => by
    have g : gN 3 (tS s) [tS cs, .int (p : Int), tS [c], x3] = some [tS cs, .int (p : Int), tS [c], tS s] := rfl
    have pl := at_lt hc
    have t : tT (eM (mSI fun x y i => .bool (Txt.startswith3 x y i)) (eV 0) (aC (eV 3) (aC (eV 1) aN))) [tS cs, .int (p : Int), tS [c], tS s] = some (decide ((cs.drop p).take s.length = s)) := by
      refine tT_ok (d := .bool (Txt.startswith3 (tx cs) (tx s) (p : Int))) rfl ?_
      rw [tx_sw (by omega)]
      rfl
    have ih := sg_loop gs (tS s) fun r hr => hs r (List.mem_cons_of_mem _ hr)
    by_cases k : (cs.drop p).take s.length = s
    · rw [decide_eq_true k] at t
      rw [List.find?_cons_of_pos (by exact decide_eq_true k)]
      have b : L_find_piece_1 [tS cs, .int (p : Int), tS [c], tS s] = some (.rt (.tuple [.str (Str.ofString "sign"), .int (s.length : Nat)])) := by
        unfold L_find_piece_1
        rw [if_tt t]
        exact ret_rt (tup_ok (aC_ok rfl (aC_ok (eL_ok (aC_ok rfl rfl) (tx_lenD (by have := hs s List.mem_cons_self; omega))) rfl)) (by show 2 ≤ 16777216; decide))
      simp only [List.map_cons, sFor, g, Option.bind_some, b]
    · rw [decide_eq_false k] at t
      rw [List.find?_cons_of_neg (by rw [decide_eq_false k]; decide)]
      have b : L_find_piece_1 [tS cs, .int (p : Int), tS [c], tS s] = some (.nx [tS cs, .int (p : Int), tS [c], tS s]) := by
        unfold L_find_piece_1
        rw [if_ff t]
        rfl
      simp only [List.map_cons, sFor, g, Option.bind_some, b]
      exact ih
theorem fp_eq : F_find_piece [tS cs, .int (p : Int)] = some (.tuple [.str (one cs p c).1, .int ((one cs p c).2 : Nat)]) := by
  have pl := at_lt hc
  have two : ∀ a b : D, [a, b].length ≤ 16777216 := fun a b => by show 2 ≤ 16777216; decide
  have le := length_eq hN (p := p) (by omega)
  have ce := comment_eq hN (p := p) (by omega)
  refine runF_rt rfl ?_
  show B_find_piece [tS cs, .int (p : Int), .none, .none] = _
  have s2 : sSet 2 (e2 pIx (eV 0) (eV 1)) [tS cs, .int (p : Int), .none, .none] = some (.nx [tS cs, .int (p : Int), tS [c], .none]) := set_nx (e2_ok rfl rfl (tx_ix (by omega) hc))
  have t1 : tV (e2 pIn (eV 2) (eC (.str (Str.ofString " \t\n")))) [tS cs, .int (p : Int), tS [c], .none] = some (decide (c ∈ Bc)) := tV_ok (e2_ok rfl rfl (tx_in c Bc))
  have t2 : tV (e2 pEq (eV 2) (eC (.str (Str.ofString "#")))) [tS cs, .int (p : Int), tS [c], .none] = some (decide ([c] = [35])) := tV_ok (e2_ok rfl rfl (tx_eq [c] [35]))
  have t3 : tV (e2 pIn (eV 2) (eC (.str (Str.ofString "abcdefghijklmnopqrstuvwxyzABCDEFGHIJKLMNOPQRSTUVWXYZ_")))) [tS cs, .int (p : Int), tS [c], .none] = some (decide (c ∈ Lc)) := tV_ok (e2_ok rfl rfl (tx_in c Lc))
  have t4 : tV (e2 pIn (eV 2) (eC (.str (Str.ofString "0123456789")))) [tS cs, .int (p : Int), tS [c], .none] = some (decide (c ∈ Dc)) := tV_ok (e2_ok rfl rfl (tx_in c Dc))
  unfold B_find_piece one
  rw [r_seq, s2, r_nx, r_seq]
  by_cases c1 : c ∈ Bc
  · rw [if_tt (t1.trans (congrArg some (decide_eq_true c1))), if_pos c1]
    rfl
  rw [if_ff (t1.trans (congrArg some (decide_eq_false c1))), if_neg c1, r_skip, r_nx, r_seq]
  by_cases c2 : c = 35
  · rw [if_tt (t2.trans (congrArg some (decide_eq_true (by rw [c2])))), if_pos c2]
    exact then_rt (ret_rt (tup_ok (aC_ok rfl (aC_ok (eL_ok (aC_ok rfl (aC_ok rfl rfl)) ce) rfl)) (two _ _)))
  rw [if_ff (t2.trans (congrArg some (decide_eq_false (by simpa using c2)))), if_neg c2, r_skip, r_nx, r_seq]
  by_cases c3 : c ∈ Lc
  · rw [if_tt (t3.trans (congrArg some (decide_eq_true c3))), if_pos c3]
    exact then_rt (ret_rt (tup_ok (aC_ok rfl (aC_ok (eL_ok (aC_ok rfl (aC_ok rfl (aC_ok (add_ld _) rfl))) (le (Lc ++ Dc))) rfl)) (two _ _)))
  rw [if_ff (t3.trans (congrArg some (decide_eq_false c3))), if_neg c3, r_skip, r_nx, r_seq]
  by_cases c4 : c ∈ Dc
  · rw [if_tt (t4.trans (congrArg some (decide_eq_true c4))), if_pos c4]
    exact then_rt (ret_rt (tup_ok (aC_ok rfl (aC_ok (eL_ok (aC_ok rfl (aC_ok rfl (aC_ok rfl rfl))) (le Dc)) rfl)) (two _ _)))
  rw [if_ff (t4.trans (congrArg some (decide_eq_false c4))), if_neg c4, r_skip, r_nx, r_seq, for_run (show aGl k_SIGNS _ = some (SG.map tS) from rfl)]
  have lp := sg_loop hN hc SG .none (by decide +kernel)
  generalize (SG.find? fun s => decide ((cs.drop p).take s.length = s)) = o at lp ⊢
  cases o with
  | some s =>
    have lp : sFor _ _ _ _ = _ := lp
    rw [lp]
    rfl
  | none =>
    obtain ⟨y3, lp⟩ := lp
    rw [lp]
    rfl
end
end My

namespace My
open PySem L2 Pf
def ln (cs : List Nat) (p : Nat) : Nat := nls (cs.take p) + 1
def cl (cs : List Nat) (p : Nat) : Nat := tl (cs.take p) + 1
def bad (k : Str) (n : Nat) : Bool := k == Str.ofString "unknown" || (match lookS k_LONGEST k with | some i => decide (i < (n : Int)) | none => false)
def wd (cs : List Nat) (p n : Nat) : List Nat := (cs.drop p).take n
theorem take_one {cs : List Nat} {p c : Nat} (h : cs[p]? = some c) : wd cs p 1 = [c] := by
  unfold wd
  obtain ⟨hl, he⟩ := List.getElem?_eq_some_iff.mp h
  rw [List.drop_eq_getElem_cons hl, he]
  rfl
theorem sg_pos : ∀ s ∈ SG, 1 ≤ s.length ∧ s.length ≤ 100 ∧ 10 ∉ s := by decide +kernel
section
variable {cs : List Nat} (hN : cs.length ≤ 4000)
include hN
theorem tw_pos {P : Nat → Bool} {p c : Nat} (hc : cs[p]? = some c) (h : P c = true) : 1 ≤ tw P cs p := by
  obtain ⟨hl, he⟩ := List.getElem?_eq_some_iff.mp hc
  unfold tw
  rw [List.drop_eq_getElem_cons hl, he, List.takeWhile_cons, if_pos h]
  exact Nat.succ_le_succ (Nat.zero_le _)
theorem tw_wd {P : Nat → Bool} {p : Nat} : ∀ d ∈ wd cs p (tw P cs p), P d = true := fun d hd => by
  have e : wd cs p (tw P cs p) = (cs.drop p).takeWhile P := tw_take _
  rw [e] at hd
  have : ∀ r : List Nat, d ∈ r.takeWhile P → P d = true := by
    intro r
    induction r with
    | nil => intro h; cases h
    | cons x r ih =>
      intro h
      rw [List.takeWhile_cons] at h
      split at h
      · rename_i k
        rcases List.mem_cons.mp h with e | h
        · rw [e]; exact k
        · exact ih h
      · cases h
  exact this _ hd
def kinds : List Str := [Str.ofString "blank", Str.ofString "word", Str.ofString "number", Str.ofString "sign", Str.ofString "unknown"]
theorem one_ok {p c : Nat} (hc : cs[p]? = some c) : 1 ≤ (one cs p c).2 ∧ p + (one cs p c).2 ≤ cs.length ∧ (one cs p c).1 ∈ kinds ∧ (wd cs p (one cs p c).2 = [10] ∨ 10 ∉ wd cs p (one cs p c).2) := by
  have pl := at_lt hc
  have b1 := tw_bound (P := (· != 10)) (cs := cs) (p := p) (by omega)
  have b2 := tw_bound (P := inP (Lc ++ Dc)) (cs := cs) (p := p) (by omega)
  have b3 := tw_bound (P := inP Dc) (cs := cs) (p := p) (by omega)
  have w1 := take_one hc
  unfold one
  by_cases c1 : c ∈ Bc
  · rw [if_pos c1]
    refine ⟨Nat.le_refl _, by show p + 1 ≤ _; omega, by decide +kernel, ?_⟩
    show wd cs p 1 = [10] ∨ 10 ∉ wd cs p 1
    rw [w1]
    by_cases k : c = 10
    · rw [k]; exact .inl rfl
    · exact .inr (by simp only [List.mem_singleton]; exact fun e => k e.symm)
  rw [if_neg c1]
  by_cases c2 : c = 35
  · rw [if_pos c2]
    exact ⟨tw_pos hN hc (by rw [c2]; rfl), b1, by show Str.ofString "blank" ∈ kinds; decide +kernel, .inr fun h => absurd (tw_wd hN _ h) (by decide)⟩
  rw [if_neg c2]
  by_cases c3 : c ∈ Lc
  · rw [if_pos c3]
    exact ⟨tw_pos hN hc (decide_eq_true (List.mem_append_left _ c3)), b2, by show Str.ofString "word" ∈ kinds; decide +kernel, .inr fun h => absurd (tw_wd hN _ h) (by decide +kernel)⟩
  rw [if_neg c3]
  by_cases c4 : c ∈ Dc
  · rw [if_pos c4]
    exact ⟨tw_pos hN hc (decide_eq_true c4), b3, by show Str.ofString "number" ∈ kinds; decide +kernel, .inr fun h => absurd (tw_wd hN _ h) (by decide +kernel)⟩
  rw [if_neg c4]
  cases hs : SG.find? fun s => decide ((cs.drop p).take s.length = s) with
  | some s =>
    have ms : s ∈ SG := List.mem_of_find?_eq_some hs
    have ws : wd cs p s.length = s := by
      have := List.find?_some hs
      exact of_decide_eq_true this
    have ps := sg_pos s ms
    have l := congrArg List.length ws
    unfold wd at l
    rw [List.length_take, List.length_drop] at l
    refine ⟨ps.1, by show p + s.length ≤ _; omega, by show Str.ofString "sign" ∈ kinds; decide +kernel, .inr ?_⟩
    show 10 ∉ wd cs p s.length
    rw [ws]
    exact ps.2.2
  | none =>
    refine ⟨Nat.le_refl _, by show p + 1 ≤ _; omega, by show Str.ofString "unknown" ∈ kinds; decide +kernel, .inr ?_⟩
    show 10 ∉ wd cs p 1
    rw [w1]
    simp only [List.mem_singleton]
    exact fun e => c1 (by rw [← e]; decide)
def tok (k : Str) (w : List Nat) (l c : Nat) : D := .tuple [.str k, tS w, .int (l : Nat), .int (c : Nat)]
def new (cs : List Nat) (p c : Nat) : List D := if (one cs p c).1 == Str.ofString "blank" then [] else [tok (one cs p c).1 (wd cs p (one cs p c).2) (ln cs p) (cl cs p)]
inductive Run (cs : List Nat) : Nat → List D → List D → Prop
  | stop {p : Nat} {acc : List D} : cs.length ≤ p → Run cs p acc acc
  | go {p c : Nat} {acc r : List D} : cs[p]? = some c → My.bad (one cs p c).1 (one cs p c).2 = false → Run cs (p + (one cs p c).2) (acc ++ new cs p c) r → Run cs p acc r
theorem wd_len {p n : Nat} (h : p + n ≤ cs.length) : (wd cs p n).length = n := by
  unfold wd
  rw [List.length_take, List.length_drop]
  omega
theorem take_wd (p n : Nat) : cs.take (p + n) = cs.take p ++ wd cs p n := List.take_add
theorem new_len (p c : Nat) : (new cs p c).length ≤ 1 := by
  unfold new
  split
  · exact Nat.zero_le _
  · exact Nat.le_refl _
theorem prog_run {p : Nat} {acc acc' : List D} (h : Run cs p acc acc') : p ≤ cs.length → acc.length ≤ p → ∀ (x5 x6 x7 : D),
    ∃ y5 y6 y7 m, sWh (tV (e2 pLt (eV 2) (eL lenD (aC (eV 0) aN)))) L_words_of_1 m [tS cs, .list acc, .int (p : Int), .int (ln cs p : Nat), .int (cl cs p : Nat), x5, x6, x7] = some (.nx [tS cs, .list acc', .int (cs.length : Int), .int (ln cs cs.length : Nat), .int (cl cs cs.length : Nat), y5, y6, y7]) := by
  have tc : ∀ (p : Nat) (acc : List D) (l c x5 x6 x7 : D), tV (e2 pLt (eV 2) (eL lenD (aC (eV 0) aN))) [tS cs, .list acc, .int (p : Int), l, c, x5, x6, x7] = some (decide ((p : Int) < (cs.length : Int))) := fun p acc l c x5 x6 x7 => tV_ok (e2_ok rfl (eL_ok (aC_ok rfl rfl) (lenT hN)) rfl)
  -- one turn up to the test
  have asg : ∀ (p c : Nat) (acc : List D) (l cc x5 x6 x7 : D), cs[p]? = some c → ∀ k n, one cs p c = (k, n) → sAsg (gTpl (gMore (gN 6) (gMore (gN 7) gEmp)) 2) (eL F_find_piece (aC (eV 0) (aC (eV 2) aN))) [tS cs, .list acc, .int (p : Int), l, cc, x5, x6, x7] = some (.nx [tS cs, .list acc, .int (p : Int), l, cc, x5, .str k, .int (n : Nat)]) := fun p c acc l cc x5 x6 x7 hc k n ho => by
    have fe := fp_eq hN hc
    rw [ho] at fe
    rw [r_asg, show eL F_find_piece (aC (eV 0) (aC (eV 2) aN)) [tS cs, .list acc, .int (p : Int), l, cc, x5, x6, x7] = _ from eL_ok (aC_ok rfl (aC_ok rfl rfl)) fe]
    rfl
  have tst : ∀ (p : Nat) (acc : List D) (l cc x5 : D) (k : Str) (n : Nat), tOrF (tV (e2 pEq (eV 6) (eC (.str (Str.ofString "unknown"))))) (tV (e2 pGt (eV 7) (eGetG k_LONGEST (eV 6) (eV 7)))) [tS cs, .list acc, .int (p : Int), l, cc, x5, .str k, .int (n : Nat)] = some (bad k n) := fun p acc l cc x5 k n => by
    have t1 : tV (e2 pEq (eV 6) (eC (.str (Str.ofString "unknown")))) [tS cs, .list acc, .int (p : Int), l, cc, x5, .str k, .int (n : Nat)] = some (k == Str.ofString "unknown") := tV_ok (e2_ok rfl rfl (pEq_str _ _))
    have t2 : tV (e2 pGt (eV 7) (eGetG k_LONGEST (eV 6) (eV 7))) [tS cs, .list acc, .int (p : Int), l, cc, x5, .str k, .int (n : Nat)] = some (match lookS k_LONGEST k with | some i => decide (i < (n : Int)) | none => false) := by
      have eg : eGetG k_LONGEST (eV 6) (eV 7) [tS cs, .list acc, .int (p : Int), l, cc, x5, .str k, .int (n : Nat)] = some (match lookS k_LONGEST k with | some i => PyData.int i | none => .int (n : Nat)) := rfl
      cases e : lookS k_LONGEST k with
      | some i =>
        rw [e] at eg
        exact tV_ok (e2_ok rfl eg rfl)
      | none =>
        rw [e] at eg
        refine (tV_ok (e2_ok rfl eg r_gtI)).trans ?_
        exact congrArg some (decide_eq_false (by omega))
    unfold tOrF
    rw [t1, Option.bind_some, t2]
    unfold bad
    cases k == Str.ofString "unknown" <;> rfl
  induction h with
  | @stop p acc h0 =>
    intro hp ha x5 x6 x7
    have ep : p = cs.length := by omega
    subst ep
    refine ⟨x5, x6, x7, 1, ?_⟩
    simp only [sWh, tc, decide_eq_false (show ¬ ((cs.length : Int) < (cs.length : Int)) by omega), Option.bind_some]
    rfl
  | @go p c acc r hc hb _ ih =>
    intro hp ha x5 x6 x7
    have pl := at_lt hc
    obtain ⟨o1, o2, o3, o4⟩ := one_ok hN hc
    have nl := new_len hN p c
    have wl := wd_len hN o2
    have tk := take_wd hN p (one cs p c).2
    have b : L_words_of_1 [tS cs, .list acc, .int (p : Int), .int (ln cs p : Nat), .int (cl cs p : Nat), x5, x6, x7] = some (.nx [tS cs, .list (acc ++ new cs p c), .int ((p + (one cs p c).2 : Nat) : Int), .int (ln cs (p + (one cs p c).2) : Nat), .int (cl cs (p + (one cs p c).2) : Nat), tS (wd cs p (one cs p c).2), .str (one cs p c).1, .int ((one cs p c).2 : Nat)]) := by
      have cut : sSet 5 (eSl pSlS (eV 0) (oS (eV 2)) (oS (e2 pAdd (eV 2) (eV 7)))) [tS cs, .list acc, .int (p : Int), .int (ln cs p : Nat), .int (cl cs p : Nat), x5, .str (one cs p c).1, .int ((one cs p c).2 : Nat)] = some (.nx [tS cs, .list acc, .int (p : Int), .int (ln cs p : Nat), .int (cl cs p : Nat), tS (wd cs p (one cs p c).2), .str (one cs p c).1, .int ((one cs p c).2 : Nat)]) := by
        refine set_nx ?_
        have e1 : e2 pAdd (eV 2) (eV 7) [tS cs, .list acc, .int (p : Int), .int (ln cs p : Nat), .int (cl cs p : Nat), x5, .str (one cs p c).1, .int ((one cs p c).2 : Nat)] = some (.int ((p + (one cs p c).2 : Nat) : Int)) := e2_ok rfl rfl rfl
        rw [r_sl, r_oS, r_oS, e1]
        refine (tx_cut (by omega) p (p + (one cs p c).2)).trans ?_
        rw [Nat.add_sub_cancel_left]
        rfl
      have tb : tV (e2 pNe (eV 6) (eC (.str (Str.ofString "blank")))) [tS cs, .list acc, .int (p : Int), .int (ln cs p : Nat), .int (cl cs p : Nat), tS (wd cs p (one cs p c).2), .str (one cs p c).1, .int ((one cs p c).2 : Nat)] = some (!((one cs p c).1 == Str.ofString "blank")) := tV_ok (e2_ok rfl rfl (pNe_str _ _))
      have md : sIf (tV (e2 pNe (eV 6) (eC (.str (Str.ofString "blank"))))) (sApp 1 (eTup (aC (eV 6) (aC (eV 5) (aC (eV 3) (aC (eV 4) aN)))))) sSkip [tS cs, .list acc, .int (p : Int), .int (ln cs p : Nat), .int (cl cs p : Nat), tS (wd cs p (one cs p c).2), .str (one cs p c).1, .int ((one cs p c).2 : Nat)] = some (.nx [tS cs, .list (acc ++ new cs p c), .int (p : Int), .int (ln cs p : Nat), .int (cl cs p : Nat), tS (wd cs p (one cs p c).2), .str (one cs p c).1, .int ((one cs p c).2 : Nat)]) := by
        unfold new
        cases kb : (one cs p c).1 == Str.ofString "blank" with
        | true =>
          rw [kb] at tb
          rw [if_ff tb, if_pos rfl, List.append_nil]
          rfl
        | false =>
          rw [kb] at tb
          rw [if_tt tb, if_neg (by decide)]
          exact app_nx (tup_ok (aC_ok rfl (aC_ok rfl (aC_ok rfl (aC_ok rfl rfl)))) (by show 4 ≤ 16777216; decide)) rfl (by omega)
      have s2 : sSet 2 (e2 (iOp0 fun a b => .int (a + b)) (eV 2) (eV 7)) [tS cs, .list (acc ++ new cs p c), .int (p : Int), .int (ln cs p : Nat), .int (cl cs p : Nat), tS (wd cs p (one cs p c).2), .str (one cs p c).1, .int ((one cs p c).2 : Nat)] = some (.nx [tS cs, .list (acc ++ new cs p c), .int ((p + (one cs p c).2 : Nat) : Int), .int (ln cs p : Nat), .int (cl cs p : Nat), tS (wd cs p (one cs p c).2), .str (one cs p c).1, .int ((one cs p c).2 : Nat)]) := rfl
      have s4 : sSet 4 (e2 (iOp0 fun a b => .int (a + b)) (eV 4) (eV 7)) [tS cs, .list (acc ++ new cs p c), .int ((p + (one cs p c).2 : Nat) : Int), .int (ln cs p : Nat), .int (cl cs p : Nat), tS (wd cs p (one cs p c).2), .str (one cs p c).1, .int ((one cs p c).2 : Nat)] = some (.nx [tS cs, .list (acc ++ new cs p c), .int ((p + (one cs p c).2 : Nat) : Int), .int (ln cs p : Nat), .int ((cl cs p + (one cs p c).2 : Nat) : Int), tS (wd cs p (one cs p c).2), .str (one cs p c).1, .int ((one cs p c).2 : Nat)]) := rfl
      have tn : tV (e2 pEq (eV 5) (eC (.str (Str.ofString "\n")))) [tS cs, .list (acc ++ new cs p c), .int ((p + (one cs p c).2 : Nat) : Int), .int (ln cs p : Nat), .int ((cl cs p + (one cs p c).2 : Nat) : Int), tS (wd cs p (one cs p c).2), .str (one cs p c).1, .int ((one cs p c).2 : Nat)] = some (decide (wd cs p (one cs p c).2 = [10])) := tV_ok (e2_ok rfl rfl (tx_eq _ [10]))
      unfold L_words_of_1
      rw [r_seq, asg p c acc _ _ x5 x6 x7 hc (one cs p c).1 (one cs p c).2 rfl, r_nx, r_seq, if_ff ((tst p acc _ _ x5 _ _).trans (congrArg some hb)), r_skip, r_nx, r_seq, cut, r_nx, r_seq, md, r_nx, r_seq, s2, r_nx, r_seq, s4, r_nx]
      by_cases w10 : wd cs p (one cs p c).2 = [10]
      · have e1 : ln cs (p + (one cs p c).2) = ln cs p + 1 := by
          unfold ln
          rw [tk, w10, nls_nl]
        have e2 : cl cs (p + (one cs p c).2) = 1 := by
          unfold cl
          rw [tk, w10, tl_nl]
        rw [if_tt (tn.trans (congrArg some (decide_eq_true w10))), e1, e2]
        rfl
      · have h10 : 10 ∉ wd cs p (one cs p c).2 := o4.resolve_left w10
        have e1 : ln cs (p + (one cs p c).2) = ln cs p := by
          unfold ln
          rw [tk, nls_app h10]
        have e2 : cl cs (p + (one cs p c).2) = cl cs p + (one cs p c).2 := by
          unfold cl
          rw [tk, tl_app h10, wl]
          omega
        rw [if_ff (tn.trans (congrArg some (decide_eq_false w10))), e1, e2]
        rfl
    have q := ih o2 (by rw [List.length_append]; omega) (tS (wd cs p (one cs p c).2)) (.str (one cs p c).1) (.int ((one cs p c).2 : Nat))
    obtain ⟨y5, y6, y7, m, e⟩ := q
    refine ⟨y5, y6, y7, m + 1, ?_⟩
    simp only [sWh, tc, decide_eq_true (show ((p : Int) < (cs.length : Int)) by omega), Option.bind_some, if_true, b]
    exact e
theorem run_len {p : Nat} {acc acc' : List D} (h : Run cs p acc acc') : p ≤ cs.length → acc'.length ≤ acc.length + (cs.length - p) := by
  induction h with
  | stop h => intro hp; omega
  | @go p c acc r hc _ _ ih =>
    intro hp
    obtain ⟨o1, o2, _, _⟩ := one_ok hN hc
    have := ih o2
    have nl := new_len hN p c
    rw [List.length_append] at this
    omega
theorem words_eq {acc : List D} (h : Run cs 0 [] acc) : F_words_of [tS cs] = some (.list (acc ++ [tok (Str.ofString "end") [] (ln cs cs.length) (cl cs cs.length)])) := by
  have la := run_len hN h (Nat.zero_le _)
  have lp := prog_run hN h (Nat.zero_le _) (Nat.zero_le _) .none .none .none
  have s1 : sSet 1 (eLst aN) [tS cs, .none, .none, .none, .none, .none, .none, .none] = some (.nx [tS cs, .list [], .none, .none, .none, .none, .none, .none]) := rfl
  have s2 : sAsg (gTpl (gMore (gN 2) (gMore (gN 3) (gMore (gN 4) gEmp))) 3) (eTup (aC (eC (.int 0)) (aC (eC (.int 1)) (aC (eC (.int 1)) aN)))) [tS cs, .list [], .none, .none, .none, .none, .none, .none] = some (.nx [tS cs, .list [], .int ((0 : Nat) : Int), .int (ln cs 0 : Nat), .int (cl cs 0 : Nat), .none, .none, .none]) := rfl
  refine runF_rt rfl ?_
  show B_words_of [tS cs, .none, .none, .none, .none, .none, .none, .none] = _
  unfold B_words_of
  rw [r_seq, s1, r_nx, r_seq, s2, r_nx, r_seq]
  obtain ⟨y5, y6, y7, m, e⟩ := lp
  rw [sWhile_eq e, r_nx, r_seq]
  have ap : sApp 1 (eTup (aC (eC (.str (Str.ofString "end"))) (aC (eC (.str (Str.ofString ""))) (aC (eV 3) (aC (eV 4) aN))))) [tS cs, .list acc, .int (cs.length : Int), .int (ln cs cs.length : Nat), .int (cl cs cs.length : Nat), y5, y6, y7] = some (.nx [tS cs, .list (acc ++ [tok (Str.ofString "end") [] (ln cs cs.length) (cl cs cs.length)]), .int (cs.length : Int), .int (ln cs cs.length : Nat), .int (cl cs cs.length : Nat), y5, y6, y7]) :=
    app_nx (tup_ok (aC_ok rfl (aC_ok rfl (aC_ok rfl (aC_ok rfl rfl)))) (by show 4 ≤ 16777216; decide)) rfl (by simp at la; omega)
  rw [ap]
  rfl
end
end My

namespace My
open PySem L2 Pf
def sg (s : Str) : List Nat := s.cps.toList
def JL : List (List Nat) → List Nat := TL.joinL [32]
def WL : List Str := NM ++ (["or", "and", "since", "implies", "not", "before", "once"] : List Str)
def WG : List Str := cmpS ++ (["+", "-", "*"] : List Str)
def WA : List Str := WL ++ (MM ++ WG)
def kdS (s : Str) : Str := if s ∈ WL then Str.ofString "word" else if s ∈ MM then Str.ofString "number" else Str.ofString "sign"
def Edge (r : List Nat) : Prop := r = [] ∨ ∃ q, r = 32 :: q
theorem tw_edge {P : Nat → Bool} {w r : List Nat} (hw : ∀ x ∈ w, P x = true) (h32 : P 32 = false) (hr : Edge r) : ((w ++ r).takeWhile P).length = w.length := by
  induction w with
  | nil =>
    rcases hr with rfl | ⟨q, rfl⟩
    · rfl
    · rw [List.nil_append, List.takeWhile_cons, h32]
      rfl
  | cons x w ih =>
    rw [List.cons_append, List.takeWhile_cons, hw x List.mem_cons_self]
    simp only [if_true, List.length_cons]
    rw [ih fun y hy => hw y (List.mem_cons_of_mem _ hy)]
theorem find_congr {α : Type} {p q : α → Bool} : ∀ {L : List α}, (∀ g ∈ L, p g = q g) → L.find? p = L.find? q
  | [], _ => rfl
  | a :: L, h => by
    rw [List.find?_cons, List.find?_cons, h a List.mem_cons_self, find_congr fun g hg => h g (List.mem_cons_of_mem _ hg)]
theorem sign_ok {s : Str} (hs : s ∈ WG) {r : List Nat} (hr : Edge r) : (SG.find? fun g => decide (((sg s) ++ r).take g.length = g)) = some (sg s) := by
  have h : ∀ s ∈ WG, ((SG.find? fun g => decide (((sg s)).take g.length = g)) = some (sg s) ∧ (SG.find? fun g => decide (((sg s) ++ [32]).take g.length = g)) = some (sg s)) ∧ 1 ≤ (sg s).length := by decide +kernel
  have l2 : ∀ g ∈ SG, g.length ≤ 2 := by decide +kernel
  obtain ⟨⟨h1, h2⟩, h3⟩ := h s hs
  rcases hr with rfl | ⟨q, rfl⟩
  · rw [List.append_nil]
    exact h1
  · rw [← h2]
    refine find_congr fun g hg => ?_
    have e : (sg s ++ 32 :: q).take g.length = (sg s ++ [32]).take g.length := by
      rw [show sg s ++ 32 :: q = (sg s ++ [32]) ++ q by simp, List.take_append_of_le_length]
      rw [List.length_append]
      have := l2 g hg
      show _ ≤ _ + 1
      omega
    rw [e]
section
variable {cs : List Nat} {p : Nat} {r : List Nat} {s : Str}
theorem one_w (hs : s ∈ WA) (hX : cs.drop p = sg s ++ r) (hr : Edge r) {c : Nat} (hc : cs[p]? = some c) : one cs p c = (kdS s, (sg s).length) := by
  have c0 : (sg s)[0]? = some c := by
    have e : (cs.drop p)[0]? = some c := by rw [List.getElem?_drop]; exact hc
    have n1 : ∀ s ∈ WA, 1 ≤ (sg s).length := by decide +kernel
    rw [hX, List.getElem?_append_left (n1 s hs)] at e
    exact e
  have all : ∀ s ∈ WA, ((sg s).head?.all fun c => decide (c ∉ Bc) && decide (c ≠ 35) && decide (c ∈ Lc ↔ s ∈ WL) && decide (c ∈ Dc ↔ (s ∉ WL ∧ s ∈ MM))) = true := by decide +kernel
  have a := all s hs
  rw [List.head?_eq_getElem?, c0] at a
  simp only [Option.all_some, Bool.and_eq_true, decide_eq_true_eq] at a
  obtain ⟨⟨⟨a1, a2⟩, a3⟩, a4⟩ := a
  unfold one kdS
  rw [if_neg a1, if_neg a2]
  by_cases w1 : s ∈ WL
  · rw [if_pos (a3.mpr w1), if_pos w1]
    have lc : ∀ s ∈ WL, ∀ x ∈ sg s, inP (Lc ++ Dc) x = true := by decide +kernel
    unfold tw
    rw [hX, tw_edge (lc s w1) (by decide +kernel) hr]
  · rw [if_neg fun h => w1 (a3.mp h), if_neg w1]
    by_cases w2 : s ∈ MM
    · rw [if_pos (a4.mpr ⟨w1, w2⟩), if_pos w2]
      have dc : ∀ s ∈ MM, ∀ x ∈ sg s, inP Dc x = true := by decide +kernel
      unfold tw
      rw [hX, tw_edge (dc s w2) (by decide +kernel) hr]
    · rw [if_neg fun h => w2 (a4.mp h).2, if_neg w2]
      have w3 : s ∈ WG := by
        rcases List.mem_append.mp hs with h | h
        · exact absurd h w1
        · exact (List.mem_append.mp h).resolve_left w2
      rw [hX, sign_ok w3 hr]
theorem one_b {q : List Nat} (hX : cs.drop p = 32 :: q) {c : Nat} (hc : cs[p]? = some c) : one cs p c = (Str.ofString "blank", 1) := by
  have e : (cs.drop p)[0]? = some c := by rw [List.getElem?_drop]; exact hc
  rw [hX] at e
  cases e
  unfold one
  rw [if_pos (by decide)]
theorem good_w (hs : s ∈ WA) : bad (kdS s) (sg s).length = false ∧ (kdS s == Str.ofString "blank") = false := by
  have h : ∀ s ∈ WA, bad (kdS s) (sg s).length = false ∧ (kdS s == Str.ofString "blank") = false := by decide +kernel
  exact h s hs
def tkD (s : Str) (l c : Nat) : Tok' := ⟨kdS s, s, (l : Nat), (c : Nat)⟩
theorem tok_toD {l c : Nat} : tok (kdS s) (sg s) l c = (tkD s l c).toD := by
  unfold tok tkD Tok'.toD tS
  rw [show tx (sg s) = s from (tx_of s).symm]
theorem drop_at {X : List Nat} {c : Nat} (h : cs.drop p = c :: X) : cs[p]? = some c := by
  have : (cs.drop p)[0]? = some c := by rw [h]; rfl
  rwa [List.getElem?_drop] at this
theorem drop_more {a X : List Nat} (h : cs.drop p = a ++ X) : cs.drop (p + a.length) = X := by
  rw [← List.drop_drop, h, List.drop_left]
theorem run_ws (hN : cs.length ≤ 4000) : ∀ (ws : List Str) (p : Nat) (acc : List D), (∀ s ∈ ws, s ∈ WA) → cs.drop p = JL (ws.map sg) → ∃ T : List Tok', Run cs p acc (acc ++ T.map Tok'.toD) ∧ T.length = ws.length ∧ ∀ (j : Nat) (s : Str), ws[j]? = some s → ∃ t : Tok', T[j]? = some t ∧ t.wd = s ∧ t.kd = kdS s
  | [], p, acc, _, h => ⟨[], by
      rw [List.map_nil, List.append_nil]
      refine .stop ?_
      have : (cs.drop p).length = 0 := by rw [h]; rfl
      rw [List.length_drop] at this
      omega, rfl, fun j s e => by simp at e⟩
  | [s], p, acc, hw, h => by
    have hs := hw s List.mem_cons_self
    have hX : cs.drop p = sg s ++ [] := by rw [h, List.append_nil]; rfl
    have n1 : 1 ≤ (sg s).length := by
      have n1 : ∀ s ∈ WA, 1 ≤ (sg s).length := by decide +kernel
      exact n1 s hs
    obtain ⟨c, hc⟩ : ∃ c, cs[p]? = some c := by
      refine ⟨_, List.getElem?_eq_getElem (by
        have := congrArg List.length hX
        rw [List.length_drop, List.append_nil] at this
        omega)⟩
    have o := one_w hs hX (.inl rfl) hc
    obtain ⟨b1, b2⟩ := good_w hs
    have e1 := drop_more hX
    refine ⟨[tkD s (ln cs p) (cl cs p)], .go hc (by rw [o]; exact b1) ?_, rfl, fun j s' e => ?_⟩
    · have nw : new cs p c = [(tkD s (ln cs p) (cl cs p)).toD] := by
        unfold new
        rw [o, b2, if_neg (by decide), ← tok_toD]
        congr 2
        unfold wd
        rw [hX, List.append_nil, List.take_length]
      rw [nw, o]
      refine .stop ?_
      have := congrArg List.length e1
      rw [List.length_drop] at this
      show _ ≤ p + (sg s).length
      simp at this
      omega
    · cases j with
      | zero => cases e; exact ⟨_, rfl, rfl, rfl⟩
      | succ j => simp at e
  | s :: s2 :: r, p, acc, hw, h => by
    have hs := hw s List.mem_cons_self
    have hX : cs.drop p = sg s ++ (32 :: JL ((s2 :: r).map sg)) := h
    have n1 : 1 ≤ (sg s).length := by
      have n1 : ∀ s ∈ WA, 1 ≤ (sg s).length := by decide +kernel
      exact n1 s hs
    obtain ⟨c, hc⟩ : ∃ c, cs[p]? = some c := by
      refine ⟨_, List.getElem?_eq_getElem (by
        have := congrArg List.length hX
        rw [List.length_drop, List.length_append] at this
        omega)⟩
    have o := one_w hs hX (.inr ⟨_, rfl⟩) hc
    obtain ⟨b1, b2⟩ := good_w hs
    have e1 := drop_more hX
    have hc2 := drop_at e1
    have o2 := one_b e1 hc2
    have e2 : cs.drop (p + (sg s).length + 1) = JL ((s2 :: r).map sg) := drop_more (a := [32]) e1
    obtain ⟨T, h1, h2, h3⟩ := run_ws hN (s2 :: r) (p + (sg s).length + 1) (acc ++ [(tkD s (ln cs p) (cl cs p)).toD]) (fun x hx => hw x (List.mem_cons_of_mem _ hx)) e2
    refine ⟨tkD s (ln cs p) (cl cs p) :: T, .go hc (by rw [o]; exact b1) ?_, by rw [List.length_cons, h2]; rfl, fun j s' e => ?_⟩
    · have nw : new cs p c = [(tkD s (ln cs p) (cl cs p)).toD] := by
        unfold new
        rw [o, b2, if_neg (by decide), ← tok_toD]
        congr 2
        unfold wd
        rw [hX, List.take_left]
      rw [nw, o]
      refine .go hc2 (by rw [o2]; decide +kernel) ?_
      have nw2 : new cs (p + (sg s).length) 32 = [] := by
        unfold new
        rw [o2]
        rfl
      rw [o2]
      show Run cs (p + (sg s).length + 1) (acc ++ [(tkD s (ln cs p) (cl cs p)).toD] ++ new cs (p + (sg s).length) 32) _
      rw [nw2, List.append_nil]
      rw [List.map_cons, show acc ++ (tkD s (ln cs p) (cl cs p)).toD :: T.map Tok'.toD = acc ++ [(tkD s (ln cs p) (cl cs p)).toD] ++ T.map Tok'.toD by simp]
      exact h1
    · cases j with
      | zero => cases e; exact ⟨_, rfl, rfl, rfl⟩
      | succ j =>
        obtain ⟨t, t1, t2, t3⟩ := h3 j s' (by simpa using e)
        exact ⟨t, by simpa using t1, t2, t3⟩
end
end My

namespace My
open PySem L2 Pf
def WB : List Str := WA ++ (["neg"] : List Str)
def Nn : List Nat := [110, 101, 103]
theorem nn_eq : (Str.ofString "neg").cps.toList = Nn := by decide +kernel
theorem wb_len : ∀ s ∈ WB, 1 ≤ (sg s).length ∧ (sg s).length ≤ 7 := by decide +kernel
theorem edge_take {u r : List Nat} (hr : Edge r) (h : ¬ u.take 3 = Nn) : ¬ (u ++ r).take 3 = Nn := fun e => by
  by_cases l : 3 ≤ u.length
  · rw [List.take_append_of_le_length l] at e
    exact h e
  · rcases hr with rfl | ⟨q, rfl⟩
    · rw [List.append_nil] at e
      exact h e
    · have m : (32 : Nat) ∈ (u ++ 32 :: q).take 3 := by
        refine List.mem_of_getElem? (i := u.length) ?_
        rw [List.getElem?_take, if_pos (by omega), List.getElem?_append_right (Nat.le_refl _), Nat.sub_self]
        rfl
      rw [e] at m
      revert m
      decide
theorem repl_w {s : Str} (hs : s ∈ WB) {r : List Nat} (hr : Edge r) : PySem.StrLaws.replL Nn [45] (sg s ++ r) = sg (tk s) ++ PySem.StrLaws.replL Nn [45] r := by
  rcases List.mem_append.mp hs with h | h
  · have e : tk s = s := by
      have h0 : ∀ s ∈ WA, tk s = s := by decide +kernel
      exact h0 s h
    have nk : ∀ s ∈ WA, ∀ k, k < (sg s).length → ¬ ((sg s).drop k).take 3 = Nn := by decide +kernel
    have z := PySem.StrLaws.repl_copy (y := Nn) (z := [45]) (L := sg s ++ r) (sg s).length 0 (fun k _ hk => by
      rw [List.drop_append_of_le_length (by omega)]
      exact edge_take hr (nk s h k (by omega))) (by rw [List.length_append]; omega)
    rw [List.drop_zero, Nat.zero_add, List.take_left, List.drop_left] at z
    rw [z, e]
  · rw [List.mem_singleton.mp h]
    have e1 : sg (Str.ofString "neg") = Nn := nn_eq
    have e2 : sg (tk (Str.ofString "neg")) = [45] := by decide +kernel
    show PySem.StrLaws.replL Nn [45] (sg (Str.ofString "neg") ++ r) = sg (tk (Str.ofString "neg")) ++ _
    rw [e1, e2]
    exact PySem.StrLaws.replL_hit (y := Nn) (z := [45]) (c := 110) (r := [101, 103] ++ r) (by decide) (by rfl)
theorem repl_ws : ∀ (ws : List Str), (∀ s ∈ ws, s ∈ WB) → PySem.StrLaws.replL Nn [45] (JL (ws.map sg)) = JL ((ws.map tk).map sg)
  | [], _ => PySem.StrLaws.replL_nil
  | [s], h => by
    have z := repl_w (h s List.mem_cons_self) (r := []) (.inl rfl)
    rw [List.append_nil, PySem.StrLaws.replL_nil, List.append_nil] at z
    exact z
  | s :: s2 :: r, h => by
    have z := repl_w (h s List.mem_cons_self) (r := 32 :: JL ((s2 :: r).map sg)) (.inr ⟨_, rfl⟩)
    have m : PySem.StrLaws.replL Nn [45] (32 :: JL ((s2 :: r).map sg)) = 32 :: PySem.StrLaws.replL Nn [45] (JL ((s2 :: r).map sg)) := PySem.StrLaws.replL_miss fun e => by
      have := congrArg List.head? e
      rw [List.head?_take, if_neg (by decide)] at this
      cases this
    rw [m, repl_ws (s2 :: r) fun x hx => h x (List.mem_cons_of_mem _ hx)] at z
    exact z
theorem JL_len : ∀ (ws : List Str), (∀ s ∈ ws, s ∈ WB) → (JL (ws.map sg)).length ≤ 8 * ws.length
  | [], _ => Nat.le_refl _
  | [s], h => by
    have := (wb_len s (h s List.mem_cons_self)).2
    show (sg s).length ≤ 8
    omega
  | s :: s2 :: r, h => by
    have a := (wb_len s (h s List.mem_cons_self)).2
    have b := JL_len (s2 :: r) fun x hx => h x (List.mem_cons_of_mem _ hx)
    show (sg s ++ ([32] ++ JL ((s2 :: r).map sg))).length ≤ _
    rw [List.length_append, List.length_append]
    show (sg s).length + (1 + _) ≤ 8 * ((s2 :: r).length + 1)
    omega
theorem txts_ok : ∀ ws : List Str, txtsD (ws.map PyData.str) = some ws
  | [] => rfl
  | s :: ws => by
    show (txtsD (ws.map PyData.str)).map (s :: ·) = _
    rw [txts_ok ws]
    rfl
theorem sum_len : ∀ (ws : List Str), (∀ s ∈ ws, s ∈ WB) → (ws.map (·.length)).sum ≤ 7 * ws.length
  | [], _ => Nat.le_refl _
  | s :: ws, h => by
    have a := (wb_len s (h s List.mem_cons_self)).2
    have b := sum_len ws fun x hx => h x (List.mem_cons_of_mem _ hx)
    have e : s.length = (sg s).length := by unfold sg Str.length; exact Array.length_toList.symm
    rw [List.map_cons, List.sum_cons, List.length_cons, e]
    omega
theorem join_sg (ws : List Str) : (Txt.join (Str.ofString " ") ws).cps.toList = JL (ws.map sg) := by
  rw [TL.join_eq]
  exact TL.tl_join (Str.ofString " ") ws
theorem text_eq [PC_Cursor] {ws : List Str} (h : ∀ s ∈ ws, s ∈ WB) (hl : ws.length ≤ 100) : (joinD (Str.ofString " ") (wD ws)).bind (replD (Str.ofString "neg") (Str.ofString "-")) = some (tS (JL ((ws.map tk).map sg))) := by
  have s1 := sum_len ws h
  have j1 : joinD (Str.ofString " ") (wD ws) = some (.str (Txt.join (Str.ofString " ") ws)) := by
    show (txtsD (ws.map PyData.str)).bind _ = _
    rw [txts_ok, Option.bind_some, if_pos]
    rw [show (Str.ofString " ").length = 1 by decide +kernel]
    omega
  have jl := JL_len ws h
  have ln : (Txt.join (Str.ofString " ") ws).length ≤ 800 := by
    rw [show (Txt.join (Str.ofString " ") ws).length = (JL (ws.map sg)).length by rw [← join_sg]; unfold Str.length; exact Array.length_toList.symm]
    omega
  rw [j1, Option.bind_some]
  show (if _ then some (PyData.str _) else none) = _
  rw [if_pos (by rw [show (Str.ofString "-").length = 1 by decide +kernel]; omega), tx_of (Txt.replace _ _ _), PySem.StrLaws.replace_list (by decide +kernel), join_sg, nn_eq, show (Str.ofString "-").cps.toList = [45] by decide +kernel, repl_ws ws h]
  rfl
end My

namespace My
open PySem L2 Pf
structure Z (cmp : Bool) (w : List Str) : Prop where
  ex : ∃ r1 r2 r3 r4 r5 r6 r7 r8 x : List Str, w = r1 ++ (r2 ++ (r3 ++ (r4 ++ (r5 ++ (r6 ++ (r7 ++ (r8 ++ x))))))) ∧ (∀ y, W0 y → W0 (r1 ++ y)) ∧ (∀ y, W2 y → W1 (r2 ++ y)) ∧ (∀ y, W3 y → W2 (r3 ++ y)) ∧ (∀ y, W4 y → W3 (r4 ++ y)) ∧
    (∀ y, W5 y → W4 (r5 ++ y)) ∧ (∀ y, W6 y → W5 (r6 ++ y)) ∧ (∀ y, W7 y → W6 (r7 ++ y)) ∧ (∀ y, W8 y → W7 (r8 ++ y)) ∧ W8 x ∧ (cmp = false → r6 = [])
theorem Z.w0 {cmp : Bool} {w : List Str} (z : Z cmp w) : W0 w := by
  obtain ⟨r1, r2, r3, r4, r5, r6, r7, r8, x, rfl, c1, c2, c3, c4, c5, c6, c7, c8, hx, _⟩ := z.ex
  exact c1 _ (.base (c2 _ (c3 _ (c4 _ (c5 _ (c6 _ (c7 _ (c8 _ hx))))))))
def Pre (pre : List Str) : Prop := pre = [] ∨ ∃ p, p ∈ P4 ∧ pre = [p]
theorem pre_c {pre : List Str} (h : Pre pre) : ∀ y, W5 y → W4 (pre ++ y) := by
  rcases h with rfl | ⟨p, hp, rfl⟩
  · exact fun y hy => .base hy
  · exact fun y hy => .pre hp hy
theorem z_start {pre x : List Str} (hp : Pre pre) (hx : W8 x) : Z false (pre ++ x) :=
  ⟨[], [], [], [], pre, [], [], [], x, rfl, fun y h => h, fun y h => .base h, fun y h => .base h, fun y h => .base h, pre_c hp, fun y h => .base h, fun y h => .base h, fun y h => .base h, hx, fun _ => rfl⟩
theorem z_log {cmp : Bool} {w pre x : List Str} {s : Str} (z : Z cmp w) (hs : s ∈ (["or", "and", "since", "implies", "and"] : List Str)) (hp : Pre pre) (hx : W8 x) : Z false (w ++ [s] ++ pre ++ x) := by
  obtain ⟨r1, r2, r3, r4, r5, r6, r7, r8, x0, rfl, c1, c2, c3, c4, c5, c6, c7, c8, hx0, _⟩ := z.ex
  have y4 := c5 _ (c6 _ (c7 _ (c8 _ hx0)))
  have y3 := c4 _ y4
  have y2 := c3 _ y3
  have y1 := c2 _ y2
  have b : ∀ y, W7 y → W6 ([] ++ y) := fun y h => .base h
  have b8 : ∀ y, W8 y → W7 ([] ++ y) := fun y h => .base h
  have b6 : ∀ y, W6 y → W5 ([] ++ y) := fun y h => .base h
  have b4 : ∀ y, W4 y → W3 ([] ++ y) := fun y h => .base h
  have b3 : ∀ y, W3 y → W2 ([] ++ y) := fun y h => .base h
  have b2 : ∀ y, W2 y → W1 ([] ++ y) := fun y h => .base h
  have cases4 : s = "or" ∨ s = "and" ∨ s = "since" ∨ s = Str.ofString "implies" := by
    simp only [List.mem_cons, List.not_mem_nil, or_false] at hs
    rcases hs with h | h | h | h | h
    · exact .inl h
    · exact .inr (.inl h)
    · exact .inr (.inr (.inl h))
    · exact .inr (.inr (.inr h))
    · exact .inr (.inl h)
  rcases cases4 with e | e | e | e
  · refine ⟨r1, (r2 ++ (r3 ++ (r4 ++ (r5 ++ (r6 ++ (r7 ++ (r8 ++ x0))))))) ++ [s], [], [], pre, [], [], [], x, by simp [List.append_assoc], c1, fun y h => ?_, b3, b4, pre_c hp, b6, b, b8, hx, fun _ => rfl⟩
    rw [List.append_assoc]
    exact .step y1 (by rw [e]; exact List.mem_cons_self) h
  · refine ⟨r1, r2, (r3 ++ (r4 ++ (r5 ++ (r6 ++ (r7 ++ (r8 ++ x0)))))) ++ [s], [], pre, [], [], [], x, by simp [List.append_assoc], c1, c2, fun y h => ?_, b4, pre_c hp, b6, b, b8, hx, fun _ => rfl⟩
    rw [List.append_assoc]
    exact .step y2 (by rw [e]; exact List.mem_cons_self) h
  · refine ⟨r1, r2, r3, (r4 ++ (r5 ++ (r6 ++ (r7 ++ (r8 ++ x0))))) ++ [s], pre, [], [], [], x, by simp [List.append_assoc], c1, c2, c3, fun y h => ?_, pre_c hp, b6, b, b8, hx, fun _ => rfl⟩
    rw [List.append_assoc]
    exact .step y3 (by rw [e]; exact List.mem_cons_self) h
  · refine ⟨r1 ++ ((r2 ++ (r3 ++ (r4 ++ (r5 ++ (r6 ++ (r7 ++ (r8 ++ x0))))))) ++ [s]), [], [], [], pre, [], [], [], x, by simp [List.append_assoc], fun y h => ?_, b2, b3, b4, pre_c hp, b6, b, b8, hx, fun _ => rfl⟩
    rw [List.append_assoc, List.append_assoc, e]
    exact c1 _ (.imp y1 h)
theorem z_cmp {w x : List Str} {s : Str} (z : Z false w) (hs : s ∈ cmpS) (hx : W8 x) : Z true (w ++ [s] ++ x) := by
  obtain ⟨r1, r2, r3, r4, r5, r6, r7, r8, x0, rfl, c1, c2, c3, c4, c5, c6, c7, c8, hx0, h6⟩ := z.ex
  have e6 := h6 rfl
  subst e6
  refine ⟨r1, r2, r3, r4, r5, (r7 ++ (r8 ++ x0)) ++ [s], [], [], x, by simp [List.append_assoc], c1, c2, c3, c4, c5, fun y h => ?_, fun y h => .base h, fun y h => .base h, hx, fun h => by cases h⟩
  rw [List.append_assoc]
  exact .cmp (c7 _ (c8 _ hx0)) hs h
theorem z_add {cmp : Bool} {w x : List Str} {s : Str} (z : Z cmp w) (hs : s ∈ (["+", "-", "*"] : List Str)) (hx : W8 x) : Z cmp (w ++ [s] ++ x) := by
  obtain ⟨r1, r2, r3, r4, r5, r6, r7, r8, x0, rfl, c1, c2, c3, c4, c5, c6, c7, c8, hx0, h6⟩ := z.ex
  by_cases m : s ∈ (["+", "-"] : List Str)
  · refine ⟨r1, r2, r3, r4, r5, r6, (r7 ++ (r8 ++ x0)) ++ [s], [], x, by simp [List.append_assoc], c1, c2, c3, c4, c5, c6, fun y h => ?_, fun y h => .base h, hx, h6⟩
    rw [List.append_assoc]
    exact .step (c7 _ (c8 _ hx0)) m h
  · have e : s = "*" := by
      simp only [List.mem_cons, List.not_mem_nil, or_false] at hs m
      rcases hs with h | h | h
      · exact absurd (.inl h) m
      · exact absurd (.inr h) m
      · exact h
    refine ⟨r1, r2, r3, r4, r5, r6, r7, (r8 ++ x0) ++ [s], x, by simp [List.append_assoc], c1, c2, c3, c4, c5, c6, c7, fun y h => ?_, hx, h6⟩
    rw [List.append_assoc]
    exact .step (c8 _ hx0) (by rw [e]; exact List.mem_cons_self) h
end My

namespace My
open PySem L2 Pf
def cell (ns : List Int) (k : Int) : Int := ns.getD k.toNat 0
theorem cell_eq (ns : List Int) (k : Int) (hk : 0 ≤ k) : F__law_cell [.list (ns.map .int), .int k] = some (.int (cell ns k)) := by
  by_cases c : k < ns.length
  · have h : (ns.map PyData.int)[k.toNat]? = some (.int (cell ns k)) := by
      have : k.toNat < ns.length := by omega
      simp [cell, List.getD, this]
    simp [F__law_cell, runF, B__law_cell, sSeq, sIf, tV, e2, eV, eL, aC, aN, lenD, pLt, iOp0, c, bo, sRet, pIx, atI_of hk h]
  · have : ns.length ≤ k.toNat := by omega
    simp [F__law_cell, runF, B__law_cell, sSeq, sIf, tV, e2, eV, eL, aC, aN, lenD, pLt, iOp0, c, bo, sRet, pIx, sSkip, eC, cell, List.getD, this]
def d1 : Int → List Int → List Int
  | _, [] => []
  | c, s :: ss => c % s :: d1 (c / s) ss
def mix (m : Int) (j : Nat) : Int := (((m * 48271 + 11 + j) % 2147483647) * 69621 + 3) % 2147483647
def d2 : Int → Nat → List Int → List Int
  | _, _, [] => []
  | m, j, s :: ss => mix m j / 7 % s :: d2 (mix m j) (j + 1) ss
def draw (ns : List Int) (k : Int) (sizes : List Int) : List Int :=
  let c := (cell ns k).natAbs
  if (1000000000000000000 : Int) ≤ c then d1 (c - 1000000000000000000) sizes else d2 ((c + 1 + 31 * k) % 2147483647) 0 sizes
def Sz (ss : List Int) : Prop := ∀ s ∈ ss, 0 < s ∧ s < 2 ^ 100
theorem loop1 (a0 a1 a2 x5 x6 : D) : ∀ (ss : List Int) (c : Int) (dr : List Int) (x7 : D), Sz ss → dr.length + ss.length < 16777216 →
    ∃ c' x7', sFor (gN 7) (sSeq (sApp 4 (e2 pMod (eV 3) (eV 7))) (sSet 3 (e2 pDiv (eV 3) (eV 7)))) (ss.map .int) [a0, a1, a2, .int c, .list (dr.map .int), x5, x6, x7] = some (.nx [a0, a1, a2, c', .list ((dr ++ d1 c ss).map .int), x5, x6, x7'])
  | [], c, dr, x7, _, _ => ⟨.int c, x7, by simp [sFor, d1]⟩
  | s :: ss, c, dr, x7, h, hl => by
    have h0 := h s (by simp)
    have hl' : dr.length + (ss.length + 1) < 16777216 := by simpa using hl
    obtain ⟨c', x7', e⟩ := loop1 a0 a1 a2 x5 x6 ss (c / s) (dr ++ [c % s]) (.int s) (fun x hx => h x (by simp [hx])) (by simp; omega)
    refine ⟨c', x7', ?_⟩
    have hz : dr.length < 16777216 := by omega
    simp [sFor, gN, sSeq, sApp, e2, eV, pMod_ok h0.1, pDiv_ok h0.1 h0.2, hz, sSet, d1]
    simpa using e
theorem mix_lt (m : Int) (j : Nat) : 0 ≤ mix m j ∧ mix m j < 2147483647 := by unfold mix; omega
theorem loop2 (a0 a1 a3 : D) (sizes : List Int) (hs : Sz sizes) (hl : sizes.length < 100000) : ∀ (n : Nat) (m : Int) (j : Nat) (dr : List Int) (x6 x7 : D), j + n = sizes.length → 0 ≤ m → m < 2147483647 → dr.length = j →
    ∃ m' x6', sFor (gN 6) (sSeq (sSet 5 (e2 pMod (e2 pAdd (e2 pAdd (e2 pMul (eV 5) (eC (.int 48271))) (eC (.int 11))) (eV 6)) (eC (.int 2147483647))))
  (sSeq (sSet 5 (e2 pMod (e2 pAdd (e2 pMul (eV 5) (eC (.int 69621))) (eC (.int 3))) (eC (.int 2147483647))))
  (sApp 4 (e2 pMod (e2 pDiv (eV 5) (eC (.int 7))) (e2 pIx (eV 2) (eV 6)))))) ((rngD 0 sizes.length).drop j) [a0, a1, .list (sizes.map .int), a3, .list (dr.map .int), .int m, x6, x7] = some (.nx [a0, a1, .list (sizes.map .int), a3, .list ((dr ++ d2 m j (sizes.drop j)).map .int), m', x6', x7])
  | 0, m, j, dr, x6, x7, hj, _, _, _ => by
    have e1 : (rngD 0 sizes.length).drop j = [] := List.drop_eq_nil_of_le (by simp [rngD]; omega)
    have e2 : sizes.drop j = [] := List.drop_eq_nil_of_le (by omega)
    exact ⟨.int m, x6, by rw [e1, e2]; simp [sFor, d2]⟩
  | n + 1, m, j, dr, x6, x7, hj, h0, h1, hd => by
    have hjl : j < sizes.length := by omega
    have e1 : (rngD 0 sizes.length).drop j = .int j :: (rngD 0 sizes.length).drop (j + 1) := drop_get (by simp [rngD, hjl])
    have e3 : sizes.drop j = sizes[j] :: sizes.drop (j + 1) := List.drop_eq_getElem_cons hjl
    have hs0 := hs sizes[j] (List.getElem_mem hjl)
    have ix : atI (sizes.map PyData.int) (j : Int) = some (.int sizes[j]) := atI_lit _ j (by simp [hjl])
    have mm := mix_lt m j
    obtain ⟨m', x6', e⟩ := loop2 a0 a1 a3 sizes hs hl n (mix m j) (j + 1) (dr ++ [mix m j / 7 % sizes[j]]) (.int j) x7 (by omega) mm.1 mm.2 (by simp [hd])
    refine ⟨m', x6', ?_⟩
    rw [e1, e3]
    have hz : dr.length < 16777216 := by omega
    have hz' : j < 16777216 := by omega
    have p1 : pMul (.int m) (.int 48271) = some (.int (m * 48271)) := pMul_ok (by omega) (by omega) (by omega) (by omega)
    have p2 : pMul (.int ((m * 48271 + 11 + j) % 2147483647)) (.int 69621) = some (.int (((m * 48271 + 11 + j) % 2147483647) * 69621)) := pMul_ok (by omega) (by omega) (by omega) (by omega)
    simp [sFor, gN, sSeq, sApp, sSet, e2, eV, eC, p1, p2, pAdd, pMod_ok, pDiv_ok, pIx, ix, hz, hz', hd, hs0.1, d2]
    simpa [mix] using e
theorem pw18 : pPow (.int 10) (.int 18) = some (.int 1000000000000000000) := by
  have c : CPow 10 18 := ⟨by decide, by decide, by decide⟩
  have e : (10 : Int) ^ (18 : Int).toNat = 1000000000000000000 := by decide +kernel
  simp only [pPow, iOp, if_pos c, e]
def tailS : SF := (sSeq (sSet 4 (eLst aN))
  (sSeq (sIf (tV (e2 pGe (eV 3) (e2 pPow (eC (.int 10)) (eC (.int 18))))) (sSeq (sSet 3 (e2 pSub (eV 3) (e2 pPow (eC (.int 10)) (eC (.int 18)))))
  (sSeq (sForE (aSeq (eV 2)) (gN 7) (sSeq (sApp 4 (e2 pMod (eV 3) (eV 7)))
  (sSet 3 (e2 pDiv (eV 3) (eV 7)))))
  (sRet (eV 4))))
  sSkip)
  (sSeq (sSet 5 (e2 pMod (e2 pAdd (e2 pAdd (eV 3) (eC (.int 1))) (e2 pMul (eC (.int 31)) (eV 1))) (eC (.int 2147483647))))
  (sSeq (sForE (aRng1 (aC (eL lenD (aC (eV 2) aN)) aN)) (gN 6) (sSeq (sSet 5 (e2 pMod (e2 pAdd (e2 pAdd (e2 pMul (eV 5) (eC (.int 48271))) (eC (.int 11))) (eV 6)) (eC (.int 2147483647))))
  (sSeq (sSet 5 (e2 pMod (e2 pAdd (e2 pMul (eV 5) (eC (.int 69621))) (eC (.int 3))) (eC (.int 2147483647))))
  (sApp 4 (e2 pMod (e2 pDiv (eV 5) (eC (.int 7))) (e2 pIx (eV 2) (eV 6)))))))
  (sRet (eV 4))))))
theorem hzz (sizes : List Int) (hl : sizes.length < 100000) : ([] : List Int).length + sizes.length < 16777216 := by
  have : ([] : List Int).length = 0 := rfl
  omega
theorem drA0 (ns : List Int) (k c : Int) (sizes : List Int) (hs : Sz sizes) (hl : sizes.length < 100000) :
   ∃ c' x7', sFor (gN 7) (sSeq (sApp 4 (e2 pMod (eV 3) (eV 7))) (sSet 3 (e2 pDiv (eV 3) (eV 7)))) (sizes.map .int) [(.list (ns.map .int)), (.int k), (.list (sizes.map .int)), .int (c - 1000000000000000000), .list [], .none, .none, .none] = some (.nx [(.list (ns.map .int)), (.int k), (.list (sizes.map .int)), c', .list ((d1 (c - 1000000000000000000) sizes).map .int), .none, .none, x7']) := 
   loop1 (.list (ns.map .int)) (.int k) (.list (sizes.map .int)) .none .none sizes (c - 1000000000000000000) [] .none hs (hzz sizes hl)
theorem drA (ns : List Int) (k c : Int) (sizes : List Int) (hs : Sz sizes) (hl : sizes.length < 100000) (hc : c = ((cell ns k).natAbs : Int)) (h' : (1000000000000000000 : Int) ≤ c) :
  tailS [.list (ns.map .int), .int k, .list (sizes.map .int), .int c, .none, .none, .none, .none] = some (.rt (.list ((draw ns k sizes).map .int))) := by
  have pw' := pw18
  obtain ⟨c', x7', e⟩ := drA0 ns k c sizes hs hl
  simp [tailS, sSeq, sSet, eLst, aN, sIf, tV, e2, eV, eC, pw', pGe, iOp0, bo, h', pSub, sForE, aSeq, sRet]
  simp [e, draw, ← hc, h']
theorem drB0 (ns : List Int) (k c m : Int) (sizes : List Int) (hs : Sz sizes) (hl : sizes.length < 100000) (h0 : 0 ≤ m) (h1 : m < 2147483647) :
    ∃ m' x6', sFor (gN 6) (sSeq (sSet 5 (e2 pMod (e2 pAdd (e2 pAdd (e2 pMul (eV 5) (eC (.int 48271))) (eC (.int 11))) (eV 6)) (eC (.int 2147483647))))
  (sSeq (sSet 5 (e2 pMod (e2 pAdd (e2 pMul (eV 5) (eC (.int 69621))) (eC (.int 3))) (eC (.int 2147483647))))
  (sApp 4 (e2 pMod (e2 pDiv (eV 5) (eC (.int 7))) (e2 pIx (eV 2) (eV 6)))))) (rngD 0 sizes.length) [.list (ns.map .int), .int k, .list (sizes.map .int), .int c, .list [], .int m, .none, .none] = some (.nx [.list (ns.map .int), .int k, .list (sizes.map .int), .int c, .list ((d2 m 0 sizes).map .int), m', x6', .none]) :=
  loop2 (.list (ns.map .int)) (.int k) (.int c) sizes hs hl sizes.length m 0 [] .none .none (Nat.zero_add _) h0 h1 rfl
theorem drB (ns : List Int) (k c : Int) (sizes : List Int) (hk : 0 ≤ k) (hk2 : k < 1000000) (hs : Sz sizes) (hl : sizes.length < 100000) (hc : c = ((cell ns k).natAbs : Int)) (h' : ¬ (1000000000000000000 : Int) ≤ c) :
  tailS [.list (ns.map .int), .int k, .list (sizes.map .int), .int c, .none, .none, .none, .none] = some (.rt (.list ((draw ns k sizes).map .int))) := by
  have pw' := pw18
  have e5 : pMul (.int 31) (.int k) = some (.int (31 * k)) := pMul_ok (by omega) (by omega) (by omega) (by omega)
  obtain ⟨m', x6', e⟩ := drB0 ns k c ((c + 1 + 31 * k) % 2147483647) sizes hs hl (by omega) (by omega)
  have hge : pGe (.int c) (.int 1000000000000000000) = some (.bool false) := by
    show some (PyData.bool (decide ((1000000000000000000 : Int) ≤ c))) = _
    rw [decide_eq_false h']
  have er : aRng1 (aC (eL lenD (aC (eV 2) aN)) aN) [.list (ns.map .int), .int k, .list (sizes.map .int), .int c, .list [], .int ((c + 1 + 31 * k) % 2147483647), .none, .none] = some (rngD 0 sizes.length) :=
    aRng1_ok (by simp [aC, eL, lenD, eV, aN]) (by omega)
  have s1 : sSet 4 (eLst aN) [.list (ns.map .int), .int k, .list (sizes.map .int), .int c, .none, .none, .none, .none] = some (.nx [.list (ns.map .int), .int k, .list (sizes.map .int), .int c, .list [], .none, .none, .none]) := rfl
  have s2 : tV (e2 pGe (eV 3) (e2 pPow (eC (.int 10)) (eC (.int 18)))) [.list (ns.map .int), .int k, .list (sizes.map .int), .int c, .list [], .none, .none, .none] = some false :=
    tV_ok (e2_ok rfl (e2_ok rfl rfl pw18) hge)
  have s3 : sSet 5 (e2 pMod (e2 pAdd (e2 pAdd (eV 3) (eC (.int 1))) (e2 pMul (eC (.int 31)) (eV 1))) (eC (.int 2147483647))) [.list (ns.map .int), .int k, .list (sizes.map .int), .int c, .list [], .none, .none, .none] =
      some (.nx [.list (ns.map .int), .int k, .list (sizes.map .int), .int c, .list [], .int ((c + 1 + 31 * k) % 2147483647), .none, .none]) :=
    set_nx (e2_ok (e2_ok (e2_ok rfl rfl rfl) (e2_ok rfl rfl e5) rfl) rfl (pMod_ok (by omega)))
  unfold tailS
  rw [seq_nx s1, seq_nx (show sIf _ _ _ _ = some (.nx _) from (if_ff s2).trans rfl), seq_nx s3, seq_nx (show sForE _ _ _ _ = _ from (for_run er).trans e)]
  rw [ret_rt (show eV 4 _ = _ from rfl)]
  simp only [draw, ← hc]
  rw [if_neg h']
theorem draw_eq (ns : List Int) (k : Int) (sizes : List Int) (hk : 0 ≤ k) (hk2 : k < 1000000) (hs : Sz sizes) (hl : sizes.length < 100000) :
    F__law_draw [.list (ns.map .int), .int k, .list (sizes.map .int)] = some (.list ((draw ns k sizes).map .int)) := by
  have step : ∀ (c : Int), c = ((cell ns k).natAbs : Int) → tailS [.list (ns.map .int), .int k, .list (sizes.map .int), .int c, .none, .none, .none, .none] = some (.rt (.list ((draw ns k sizes).map .int))) := by
    intro c hc
    by_cases h' : (1000000000000000000 : Int) ≤ c
    · exact drA ns k c sizes hs hl hc h'
    · exact drB ns k c sizes hk hk2 hs hl hc h'
  have e0 : B__law_draw = sSeq (sSet 3 (eL F__law_cell (aC (eV 0) (aC (eV 1) aN)))) (sSeq (sIf (tV (e2 pLt (eV 3) (eC (.int 0)))) (sSet 3 (e1 pNeg (eV 3))) sSkip) tailS) := rfl
  refine runF_rt rfl ?_
  show B__law_draw [.list (ns.map .int), .int k, .list (sizes.map .int), .none, .none, .none, .none, .none] = _
  rw [e0]
  have h1 : sSet 3 (eL F__law_cell (aC (eV 0) (aC (eV 1) aN))) [.list (ns.map .int), .int k, .list (sizes.map .int), .none, .none, .none, .none, .none] = some (.nx [.list (ns.map .int), .int k, .list (sizes.map .int), .int (cell ns k), .none, .none, .none, .none]) :=
    set_nx (eL_ok rfl (cell_eq ns k hk))
  rw [seq_nx h1]
  by_cases hn : cell ns k < 0
  · have c : tV (e2 pLt (eV 3) (eC (.int 0))) [.list (ns.map .int), .int k, .list (sizes.map .int), .int (cell ns k), .none, .none, .none, .none] = some true :=
      tV_ok (e2_ok rfl rfl (by show some (PyData.bool (decide (cell ns k < 0))) = _; rw [decide_eq_true hn]))
    have h2 : sIf (tV (e2 pLt (eV 3) (eC (.int 0)))) (sSet 3 (e1 pNeg (eV 3))) sSkip [.list (ns.map .int), .int k, .list (sizes.map .int), .int (cell ns k), .none, .none, .none, .none] = some (.nx [.list (ns.map .int), .int k, .list (sizes.map .int), .int (-cell ns k), .none, .none, .none, .none]) := (if_tt c).trans rfl
    rw [seq_nx h2]
    exact step (-(cell ns k)) (by omega)
  · have c : tV (e2 pLt (eV 3) (eC (.int 0))) [.list (ns.map .int), .int k, .list (sizes.map .int), .int (cell ns k), .none, .none, .none, .none] = some false :=
      tV_ok (e2_ok rfl rfl (by show some (PyData.bool (decide (cell ns k < 0))) = _; rw [decide_eq_false hn]))
    have h2 : sIf (tV (e2 pLt (eV 3) (eC (.int 0)))) (sSet 3 (e1 pNeg (eV 3))) sSkip [.list (ns.map .int), .int k, .list (sizes.map .int), .int (cell ns k), .none, .none, .none, .none] = some (.nx [.list (ns.map .int), .int k, .list (sizes.map .int), .int (cell ns k), .none, .none, .none, .none]) := (if_ff c).trans rfl
    rw [seq_nx h2]
    exact step (cell ns k) (by omega)
theorem d1_ok : ∀ (ss : List Int) (c : Int), Sz ss → (d1 c ss).length = ss.length ∧ ∀ (i : Nat) (x s : Int), (d1 c ss)[i]? = some x → ss[i]? = some s → 0 ≤ x ∧ x < s
  | [], c, _ => ⟨rfl, fun i x s h => by simp [d1] at h⟩
  | s :: ss, c, h => by
    obtain ⟨l, q⟩ := d1_ok ss (c / s) (fun x hx => h x (by simp [hx]))
    refine ⟨by simp [d1, l], fun i x t hx ht => ?_⟩
    cases i with
    | zero =>
      simp [d1] at hx ht
      subst hx ht
      have := (h s (by simp)).1
      exact ⟨Int.emod_nonneg _ (by omega), Int.emod_lt_of_pos _ this⟩
    | succ i => exact q i x t (by simpa [d1] using hx) (by simpa using ht)
theorem d2_ok : ∀ (ss : List Int) (c : Int) (j : Nat), Sz ss → (d2 c j ss).length = ss.length ∧ ∀ (i : Nat) (x s : Int), (d2 c j ss)[i]? = some x → ss[i]? = some s → 0 ≤ x ∧ x < s
  | [], c, j, _ => ⟨rfl, fun i x s h => by simp [d2] at h⟩
  | s :: ss, c, j, h => by
    obtain ⟨l, q⟩ := d2_ok ss (mix c j) (j + 1) (fun x hx => h x (by simp [hx]))
    refine ⟨by simp [d2, l], fun i x t hx ht => ?_⟩
    cases i with
    | zero =>
      simp [d2] at hx ht
      subst hx ht
      have := (h s (by simp)).1
      exact ⟨Int.emod_nonneg _ (by omega), Int.emod_lt_of_pos _ this⟩
    | succ i => exact q i x t (by simpa [d2] using hx) (by simpa using ht)
theorem draw_ok (ns : List Int) (k : Int) (ss : List Int) (h : Sz ss) : (draw ns k ss).length = ss.length ∧ ∀ (i : Nat) (x s : Int), (draw ns k ss)[i]? = some x → ss[i]? = some s → 0 ≤ x ∧ x < s := by
  simp only [draw]
  split
  · exact d1_ok _ _ h
  · exact d2_ok _ _ _ h
end My

namespace My
open PySem L2 Pf
section
variable [PC_Cursor]
def OPL : List Str := ["x", "y", "3", "z", "0", "w", "12", "v", "u"]
theorem app_w {f : EF} {env : List D} {w : List Str} {s : Str} (hf : f env = some (.str s)) (he : env[2]? = some (wD w)) (hl : w.length < 16777216) : sApp 2 f env = some (.nx (env.set 2 (wD (w ++ [s])))) := by
  unfold sApp
  rw [hf, Option.bind_some, he, Option.bind_some]
  show (if _ then _ else none) = _
  rw [if_pos (by rw [List.length_map]; exact hl)]
  unfold wD
  rw [List.map_append]
  rfl
theorem pk {L : List Str} {i : Int} (h0 : 0 ≤ i) (h1 : i < L.length) : ∃ s, s ∈ L ∧ pIx (.list (L.map .str)) (.int i) = some (.str s) := by
  have hl : i.toNat < L.length := by omega
  refine ⟨L[i.toNat], List.getElem_mem hl, ?_⟩
  have := ix_nat (ds := L.map .str) (k := i.toNat) (d := .str L[i.toNat]) (by rw [List.getElem?_map, List.getElem?_eq_getElem hl]; rfl)
  rwa [show ((i.toNat : Nat) : Int) = i by omega] at this
def szR : List Int := [12, 9, 9, 9, 6]
theorem szR_ok : Sz szR := fun s hs => by
  have : ∀ s ∈ szR, 0 < s ∧ s < 2 ^ 100 := by decide +kernel
  exact this s hs
theorem szH_ok : Sz ([6, 5] : List Int) := fun s hs => by
  have : ∀ s ∈ ([6, 5] : List Int), 0 < s ∧ s < 2 ^ 100 := by decide +kernel
  exact this s hs
theorem cI_app {a b : List Str} : cI (a ++ b) = cI a + cI b := by unfold cI; rw [List.count_append]
theorem cI8 {x : List Str} (h : W8 x) : cI x = 0 := by
  unfold cI
  refine List.count_eq_zero.mpr fun m => ?_
  exact hi8 x h _ m 0 (by decide) _ rfl (by decide)
theorem cIp {pre : List Str} (h : Pre pre) : cI pre = 0 := by
  rcases h with rfl | ⟨p, hp, rfl⟩
  · rfl
  · have : ∀ p ∈ P4, cI [p] = 0 := by decide +kernel
    exact this p hp
theorem wb8 {x : List Str} (h : W8 x) : (∀ s ∈ x, s ∈ WB) ∧ x.length ≤ 2 := by
  have m : ∀ s ∈ NM ++ MM, s ∈ WB := by decide +kernel
  rcases h with h | h
  · exact ⟨fun s hs => by rw [List.mem_singleton.mp hs]; exact m _ h, by simp⟩
  · refine ⟨fun s hs => ?_, by simp⟩
    rcases List.mem_cons.mp hs with rfl | hs
    · decide +kernel
    · rw [List.mem_singleton.mp hs]; exact m _ h
theorem wbp {pre : List Str} (h : Pre pre) : (∀ s ∈ pre, s ∈ WB) ∧ pre.length ≤ 1 := by
  rcases h with rfl | ⟨p, hp, rfl⟩
  · exact ⟨fun s hs => by simp at hs, by simp⟩
  · have m : ∀ s ∈ P4, s ∈ WB := by decide +kernel
    exact ⟨fun s hs => by rw [List.mem_singleton.mp hs]; exact m _ hp, by simp⟩
def St (k : Nat) (w : List Str) (c l : Bool) : Prop := ((k = 0 ∧ w = [] ∧ c = false ∧ l = true) ∨ (0 < k ∧ Z c w ∧ l = false)) ∧ (∀ s ∈ w, s ∈ WB) ∧ w.length ≤ 4 * k ∧ cI w ≤ k
theorem row_eq (ns : List Int) : ∃ w, F__law_row [.list (ns.map .int)] = some (wD w) ∧ W0 w ∧ (∀ s ∈ w, s ∈ WB) ∧ w.length ≤ 28 ∧ cI w ≤ 9 := by
  have dh := draw_eq ns 0 [6, 5] (by decide) (by decide) szH_ok (by decide)
  obtain ⟨hl, hq⟩ := draw_ok ns 0 [6, 5] szH_ok
  obtain ⟨hs, hhs⟩ : ∃ hs, hs = draw ns 0 [6, 5] := ⟨_, rfl⟩
  rw [← hhs] at dh hl hq
  obtain ⟨h0, h1, rfl⟩ : ∃ h0 h1, hs = [h0, h1] := by
    match hs, hl with
    | [a, b], _ => exact ⟨a, b, rfl⟩
  have b0 := hq 0 h0 6 rfl rfl
  have dr : ∀ k : Nat, k < 7 → ∃ a0 a1 a2 a3 a4 : Int, F__law_draw [.list (ns.map .int), .int (1 + (k : Int)), .list (szR.map .int)] = some (.list [.int a0, .int a1, .int a2, .int a3, .int a4]) ∧ (0 ≤ a0 ∧ a0 < 12) ∧ (0 ≤ a1 ∧ a1 < 9) ∧ (0 ≤ a2 ∧ a2 < 9) ∧ (0 ≤ a3 ∧ a3 < 9) ∧ (0 ≤ a4 ∧ a4 < 6) := fun k hk => by
    have d := draw_eq ns (1 + (k : Int)) szR (by omega) (by omega) szR_ok (by decide)
    obtain ⟨l, q⟩ := draw_ok ns (1 + (k : Int)) szR szR_ok
    obtain ⟨ds, hds⟩ : ∃ ds, ds = draw ns (1 + (k : Int)) szR := ⟨_, rfl⟩
    rw [← hds] at d l q
    match ds, l with
    | [a0, a1, a2, a3, a4], _ => exact ⟨a0, a1, a2, a3, a4, d, q 0 a0 12 rfl rfl, q 1 a1 9 rfl rfl, q 2 a2 9 rfl rfl, q 3 a3 9 rfl rfl, q 4 a4 6 rfl rfl⟩
  obtain ⟨NS, hNS⟩ : ∃ NS, NS = PyData.list (ns.map .int) := ⟨_, rfl⟩
  rw [← hNS] at dh ⊢
  simp only [← hNS] at dr
  clear hNS
  obtain ⟨HD, hHD⟩ : ∃ HD, HD = PyData.list ([h0, h1].map .int) := ⟨_, rfl⟩
  rw [← hHD] at dh
  have hn : (2 + h0).toNat ≤ 7 := by omega
  obtain ⟨e', l1, l2⟩ := for_rng (lo := 0) (n := (2 + h0).toNat) (g := gN 5) (body := L__law_row_1) (env := [NS, HD, wD [], .bool false, .bool true, .none, .none])
    (fun k e => ∃ w c l x5 x6, e = [NS, HD, wD w, .bool c, .bool l, x5, x6] ∧ St k w c l) ⟨[], false, true, .none, .none, rfl, .inl ⟨rfl, rfl, rfl, rfl⟩, fun s hs => by simp at hs, by simp, by decide⟩ (by
      rintro k e hk ⟨w, c, l, x5, x6, rfl, st, hw, hl, hc⟩
      rw [Int.zero_add]
      show Stp (L__law_row_1 [NS, HD, wD w, .bool c, .bool l, .int (k : Int), x6]) _ _ _
      obtain ⟨a0, a1, a2, a3, a4, d, q0, q1, q2, q3, q4⟩ := dr k (by omega)
      obtain ⟨DS, hDS⟩ : ∃ DS, DS = PyData.list [.int a0, .int a1, .int a2, .int a3, .int a4] := ⟨_, rfl⟩
      rw [← hDS] at d
      have i0 : pIx DS (.int 0) = some (.int a0) := by subst hDS; rfl
      have i1 : pIx DS (.int 1) = some (.int a1) := by subst hDS; rfl
      have i2 : pIx DS (.int 2) = some (.int a2) := by subst hDS; rfl
      have i3 : pIx DS (.int 3) = some (.int a3) := by subst hDS; rfl
      have i4 : pIx DS (.int 4) = some (.int a4) := by subst hDS; rfl
      clear hDS
      -- the connecting word
      have cn : ∃ w1 c1 l1, sIf (tV (e2 pGt (eV 5) (eC (.int 0)))) (sIf (tV (e2 pLt (e2 pIx (eV 6) (eC (.int 0))) (eC (.int 5)))) (sSeq (sApp 2 (e2 pIx (eLst (aC (eC (.str (Str.ofString "or"))) (aC (eC (.str (Str.ofString "and"))) (aC (eC (.str (Str.ofString "since"))) (aC (eC (.str (Str.ofString "implies"))) (aC (eC (.str (Str.ofString "and"))) aN)))))) (e2 pIx (eV 6) (eC (.int 0))))) (sSeq (sSet 3 (eC (.bool false))) (sSet 4 (eC (.bool true)))))
          (sIf (tAndF (tV (e2 pLt (e2 pIx (eV 6) (eC (.int 0))) (eC (.int 7)))) (tNotF (tT (eV 3)))) (sSeq (sApp 2 (e2 pIx (eLst (aC (eC (.str (Str.ofString "<"))) (aC (eC (.str (Str.ofString "<="))) (aC (eC (.str (Str.ofString "="))) (aC (eC (.str (Str.ofString "!="))) (aC (eC (.str (Str.ofString ">="))) (aC (eC (.str (Str.ofString ">"))) aN))))))) (e2 pIx (eV 6) (eC (.int 4))))) (sSet 3 (eC (.bool true))))
          (sApp 2 (e2 pIx (eC (.str (Str.ofString "+-*"))) (e2 pMod (e2 pIx (eV 6) (eC (.int 0))) (eC (.int 3))))))) sSkip [NS, HD, wD w, .bool c, .bool l, .int (k : Int), DS] = some (.nx [NS, HD, wD w1, .bool c1, .bool l1, .int (k : Int), DS]) ∧
          (∀ pre x, Pre pre → (l1 = false → pre = []) → W8 x → Z c1 (w1 ++ pre ++ x)) ∧ (∀ s ∈ w1, s ∈ WB) ∧ w1.length ≤ 4 * k + 1 ∧ cI w1 ≤ k + 1 := by
        have tk : tV (e2 pGt (eV 5) (eC (.int 0))) [NS, HD, wD w, .bool c, .bool l, .int (k : Int), DS] = some (decide ((0 : Int) < (k : Int))) := tV_ok (e2_ok rfl rfl rfl)
        have one : ∀ {s : Str}, s ∈ WB → (∀ y ∈ w ++ [s], y ∈ WB) ∧ (w ++ [s]).length ≤ 4 * k + 1 ∧ cI (w ++ [s]) ≤ k + 1 := fun {s} h => by
          refine ⟨fun y hy => ?_, by rw [List.length_append]; show _ + 1 ≤ _; omega, ?_⟩
          · rcases List.mem_append.mp hy with hy | hy
            · exact hw y hy
            · rw [List.mem_singleton.mp hy]; exact h
          · rw [cI_app]
            have : cI [s] ≤ 1 := List.count_le_length
            omega
        rcases st with ⟨rfl, rfl, rfl, rfl⟩ | ⟨kp, z, rfl⟩
        · refine ⟨[], false, true, ?_, fun pre x hp _ hx => z_start hp hx, fun s hs => by simp at hs, by simp, by decide⟩
          rw [if_ff (tk.trans rfl)]
          rfl
        · rw [if_tt (tk.trans (by rw [decide_eq_true (by omega)]))]
          have ix0 : e2 pIx (eV 6) (eC (.int 0)) [NS, HD, wD w, .bool c, .bool false, .int (k : Int), DS] = some (.int a0) := e2_ok rfl rfl i0
          have t5 : tV (e2 pLt (e2 pIx (eV 6) (eC (.int 0))) (eC (.int 5))) [NS, HD, wD w, .bool c, .bool false, .int (k : Int), DS] = some (decide (a0 < 5)) := tV_ok (e2_ok ix0 rfl rfl)
          have t7 : tV (e2 pLt (e2 pIx (eV 6) (eC (.int 0))) (eC (.int 7))) [NS, HD, wD w, .bool c, .bool false, .int (k : Int), DS] = some (decide (a0 < 7)) := tV_ok (e2_ok ix0 rfl rfl)
          by_cases c5 : a0 < 5
          · obtain ⟨s, sm, sp⟩ := pk (L := ["or", "and", "since", "implies", "and"]) q0.1 (by simpa using c5)
            obtain ⟨o1, o2, o3⟩ := one (s := s) (by
              have : ∀ s ∈ (["or", "and", "since", "implies", "and"] : List Str), s ∈ WB := by decide +kernel
              exact this s sm)
            refine ⟨w ++ [s], false, true, ?_, fun pre x hp _ hx => z_log z sm hp hx, o1, o2, o3⟩
            rw [if_tt (t5.trans (by rw [decide_eq_true c5])), r_seq, app_w (w := w) (s := s) (e2_ok (by rfl) ix0 sp) rfl (by omega)]
            rfl
          · rw [if_ff (t5.trans (by rw [decide_eq_false c5]))]
            have t3 : tNotF (tT (eV 3)) [NS, HD, wD w, .bool c, .bool false, .int (k : Int), DS] = some (!c) := rfl
            by_cases c7 : a0 < 7 ∧ c = false
            · obtain ⟨s, sm, sp⟩ := pk (L := cmpS) q4.1 q4.2
              obtain ⟨o1, o2, o3⟩ := one (s := s) (by
                have : ∀ s ∈ cmpS, s ∈ WB := by decide +kernel
                exact this s sm)
              have ix4 : e2 pIx (eV 6) (eC (.int 4)) [NS, HD, wD w, .bool c, .bool false, .int (k : Int), DS] = some (.int a4) := e2_ok rfl rfl i4
              obtain ⟨c7, rfl⟩ := c7
              refine ⟨w ++ [s], true, false, ?_, fun pre x hp hn hx => by rw [hn rfl, List.append_nil]; exact z_cmp z sm hx, o1, o2, o3⟩
              rw [if_tt ((tand_tt (t7.trans (by rw [decide_eq_true c7]))).trans t3), r_seq, app_w (w := w) (s := s) (e2_ok (by rfl) ix4 sp) rfl (by omega)]
              rfl
            · have sp : ∃ s, s ∈ (["+", "-", "*"] : List Str) ∧ pIx (.str (Str.ofString "+-*")) (.int (a0 % 3)) = some (.str s) := by
                have : a0 % 3 = 0 ∨ a0 % 3 = 1 ∨ a0 % 3 = 2 := by omega
                rcases this with h | h | h <;> rw [h]
                · exact ⟨"+", by decide, by rfl⟩
                · exact ⟨"-", by decide, by rfl⟩
                · exact ⟨"*", by decide, by rfl⟩
              obtain ⟨s, sm, sp⟩ := sp
              obtain ⟨o1, o2, o3⟩ := one (s := s) (by
                have : ∀ s ∈ (["+", "-", "*"] : List Str), s ∈ WB := by decide +kernel
                exact this s sm)
              refine ⟨w ++ [s], c, false, ?_, fun pre x hp hn hx => by rw [hn rfl, List.append_nil]; exact z_add z sm hx, o1, o2, o3⟩
              have tf : tAndF (tV (e2 pLt (e2 pIx (eV 6) (eC (.int 0))) (eC (.int 7)))) (tNotF (tT (eV 3))) [NS, HD, wD w, .bool c, .bool false, .int (k : Int), DS] = some false := by
                by_cases c8 : a0 < 7
                · rw [tand_tt (t7.trans (by rw [decide_eq_true c8])), t3]
                  cases c with
                  | true => rfl
                  | false => exact absurd ⟨c8, rfl⟩ c7
                · exact tand_ff (t7.trans (by rw [decide_eq_false c8]))
              rw [if_ff tf, app_w (w := w) (s := s) (e2_ok rfl (e2_ok (d := .int (a0 % 3)) ix0 rfl (pMod_ok (by decide))) sp) rfl (by omega)]
              rfl
      obtain ⟨w1, c1, l1, e1, z1, m1, n1, p1⟩ := cn
      -- the prefix
      have pf : ∃ pre, sIf (tAndF (tT (eV 4)) (tV (e2 pLt (e2 pIx (eV 6) (eC (.int 1))) (eC (.int 3))))) (sApp 2 (e2 pIx (eLst (aC (eC (.str (Str.ofString "not"))) (aC (eC (.str (Str.ofString "before"))) (aC (eC (.str (Str.ofString "once"))) aN)))) (e2 pIx (eV 6) (eC (.int 1))))) sSkip [NS, HD, wD w1, .bool c1, .bool l1, .int (k : Int), DS] = some (.nx [NS, HD, wD (w1 ++ pre), .bool c1, .bool l1, .int (k : Int), DS]) ∧ Pre pre ∧ (l1 = false → pre = []) := by
        have ix1 : e2 pIx (eV 6) (eC (.int 1)) [NS, HD, wD w1, .bool c1, .bool l1, .int (k : Int), DS] = some (.int a1) := e2_ok rfl rfl i1
        have t1 : tT (eV 4) [NS, HD, wD w1, .bool c1, .bool l1, .int (k : Int), DS] = some l1 := rfl
        have t2 : tV (e2 pLt (e2 pIx (eV 6) (eC (.int 1))) (eC (.int 3))) [NS, HD, wD w1, .bool c1, .bool l1, .int (k : Int), DS] = some (decide (a1 < 3)) := tV_ok (e2_ok ix1 rfl rfl)
        cases l1 with
        | false => exact ⟨[], by rw [if_ff (tand_ff t1), List.append_nil]; rfl, .inl rfl, fun _ => rfl⟩
        | true =>
          by_cases c3 : a1 < 3
          · obtain ⟨s, sm, sp⟩ := pk (L := P4) q1.1 (by show a1 < 3; exact c3)
            refine ⟨[s], ?_, .inr ⟨s, sm, rfl⟩, fun h => by cases h⟩
            rw [if_tt ((tand_tt t1).trans (t2.trans (by rw [decide_eq_true c3]))), app_w (w := w1) (s := s) (e2_ok (by rfl) ix1 sp) rfl (by omega)]
            rfl
          · exact ⟨[], by rw [if_ff ((tand_tt t1).trans (t2.trans (by rw [decide_eq_false c3]))), List.append_nil]; rfl, .inl rfl, fun h => by cases h⟩
      obtain ⟨pre, e2', hp, hpn⟩ := pf
      obtain ⟨wp, lp⟩ := wbp hp
      obtain ⟨w2, hw2⟩ : ∃ w2, w2 = w1 ++ pre := ⟨_, rfl⟩
      rw [← hw2] at e2'
      have l2 : w2.length ≤ 4 * k + 2 := by rw [hw2, List.length_append]; omega
      -- the operand
      have op : ∃ x, sSeq (sIf (tV (e2 pEq (e2 pIx (eV 6) (eC (.int 2))) (eC (.int 1)))) (sApp 2 (eC (.str (Str.ofString "neg")))) sSkip) (sApp 2 (e2 pIx (eLst (aC (eC (.str (Str.ofString "x"))) (aC (eC (.str (Str.ofString "y"))) (aC (eC (.str (Str.ofString "3"))) (aC (eC (.str (Str.ofString "z"))) (aC (eC (.str (Str.ofString "0"))) (aC (eC (.str (Str.ofString "w"))) (aC (eC (.str (Str.ofString "12"))) (aC (eC (.str (Str.ofString "v"))) (aC (eC (.str (Str.ofString "u"))) aN)))))))))) (e2 pIx (eV 6) (eC (.int 3))))) [NS, HD, wD w2, .bool c1, .bool false, .int (k : Int), DS] = some (.nx [NS, HD, wD (w2 ++ x), .bool c1, .bool false, .int (k : Int), DS]) ∧ W8 x := by
        obtain ⟨s, sm, sp⟩ := pk (L := OPL) q3.1 q3.2
        have sn : s ∈ NM ++ MM := by
          have : ∀ s ∈ OPL, s ∈ NM ++ MM := by decide +kernel
          exact this s sm
        have t : tV (e2 pEq (e2 pIx (eV 6) (eC (.int 2))) (eC (.int 1))) [NS, HD, wD w2, .bool c1, .bool false, .int (k : Int), DS] = some (decide (a2 = 1)) := tV_ok (e2_ok (e2_ok rfl rfl i2) rfl (by rw [pEq_int, beq_dec]))
        have ix3 : ∀ v, e2 pIx (eV 6) (eC (.int 3)) [NS, HD, wD v, .bool c1, .bool false, .int (k : Int), DS] = some (.int a3) := fun v => e2_ok rfl rfl i3
        by_cases c1' : a2 = 1
        · refine ⟨[Str.ofString "neg", s], ?_, .neg sn⟩
          rw [r_seq, if_tt (t.trans (by rw [decide_eq_true c1'])), app_w (w := w2) (s := Str.ofString "neg") rfl rfl (by omega), r_nx]
          show sApp 2 _ [NS, HD, wD (w2 ++ [Str.ofString "neg"]), .bool c1, .bool false, .int (k : Int), DS] = _
          rw [app_w (w := w2 ++ [Str.ofString "neg"]) (s := s) (e2_ok (by rfl) (ix3 _) sp) rfl (by rw [List.length_append]; show _ + 1 < _; omega), List.append_assoc]
          rfl
        · refine ⟨[s], ?_, .one sn⟩
          rw [r_seq, if_ff (t.trans (by rw [decide_eq_false c1'])), r_skip, r_nx, app_w (w := w2) (s := s) (e2_ok (by rfl) (ix3 _) sp) rfl (by omega)]
          rfl
      obtain ⟨x, e3, hx⟩ := op
      obtain ⟨wx, lx⟩ := wb8 hx
      have sd : sSet 6 (eL F__law_draw (aC (eV 0) (aC (e2 pAdd (eC (.int 1)) (eV 5)) (aC (eLst (aC (eC (.int 12)) (aC (eC (.int 9)) (aC (eC (.int 9)) (aC (eC (.int 9)) (aC (eC (.int 6)) aN)))))) aN)))) [NS, HD, wD w, .bool c, .bool l, .int (k : Int), x6] = some (.nx [NS, HD, wD w, .bool c, .bool l, .int (k : Int), DS]) :=
        set_nx (eL_ok (aC_ok rfl (aC_ok (e2_ok rfl rfl rfl) (aC_ok (d := .list (szR.map .int)) rfl rfl))) d)
      have bd : L__law_row_1 [NS, HD, wD w, .bool c, .bool l, .int (k : Int), x6] = some (.nx [NS, HD, wD (w1 ++ pre ++ x), .bool c1, .bool false, .int (k : Int), DS]) := by
        unfold L__law_row_1
        rw [r_seq, sd, r_nx, r_seq, e1, r_nx, r_seq, e2', r_nx, r_seq]
        show thenO (some (.nx [NS, HD, wD w2, .bool c1, .bool false, .int (k : Int), DS])) _ = _
        rw [r_nx, e3, hw2]
      rw [bd]
      refine ⟨_, _, _, _, _, rfl, .inr ⟨Nat.succ_pos _, z1 pre x hp hpn hx, rfl⟩, fun s hs => ?_, ?_, ?_⟩
      · rcases List.mem_append.mp hs with hs | hs
        · rcases List.mem_append.mp hs with hs | hs
          · exact m1 s hs
          · exact wp s hs
        · exact wx s hs
      · rw [List.length_append, List.length_append]
        omega
      · rw [cI_app, cI_app, cI8 hx, cIp hp]
        omega)
  obtain ⟨w, c, l, x5, x6, rfl, st, hw, hl', hc⟩ := l2
  have z : Z c w := by
    rcases st with ⟨h, _⟩ | ⟨_, z, _⟩
    · omega
    · exact z
  refine ⟨w, ?_, z.w0, hw, by omega, by omega⟩
  refine runF_rt rfl ?_
  show B__law_row [NS, .none, .none, .none, .none, .none, .none] = _
  have s1 : sSet 1 (eL F__law_draw (aC (eV 0) (aC (eC (.int 0)) (aC (eLst (aC (eC (.int 6)) (aC (eC (.int 5)) aN))) aN)))) [NS, .none, .none, .none, .none, .none, .none] = some (.nx [NS, HD, .none, .none, .none, .none, .none]) :=
    set_nx (eL_ok (aC_ok rfl (aC_ok rfl (aC_ok (d := .list (([6, 5] : List Int).map .int)) rfl rfl))) dh)
  have hix : pIx HD (.int 0) = some (.int h0) := by subst hHD; rfl
  have er : aRng1 (aC (e2 pAdd (eC (.int 2)) (e2 pIx (eV 1) (eC (.int 0)))) aN) [NS, HD, wD [], .bool false, .bool true, .none, .none] = some (rngD 0 (2 + h0).toNat) := by
    exact aRng1_ok (aC_ok (e2_ok rfl (e2_ok rfl rfl hix) (show pAdd (.int 2) (.int h0) = some (.int (((2 + h0).toNat : Nat) : Int)) by show some (PyData.int (2 + h0)) = _; rw [show (((2 + h0).toNat : Nat) : Int) = 2 + h0 by omega])) rfl) (by omega)
  unfold B__law_row
  rw [r_seq, s1, r_nx, r_seq]
  show thenO (some (.nx [NS, HD, wD [], .none, .none, .none, .none])) _ = _
  rw [r_nx, r_seq]
  show thenO (some (.nx [NS, HD, wD [], .bool false, .none, .none, .none])) _ = _
  rw [r_nx, r_seq]
  show thenO (some (.nx [NS, HD, wD [], .bool false, .bool true, .none, .none])) _ = _
  rw [r_nx, r_seq, for_run er, l1]
  rfl
end
end My

namespace My
open PySem L2 Pf
section
variable [PC_Cursor]
theorem init_eq {cs : List Nat} {W : List Tok'} (h : F_words_of [tS cs] = some (.list (W.map Tok'.toD))) : F_Cursor___init__ [tS cs] = some (cu W 0) := by
  unfold F_Cursor___init__ runI
  rw [if_pos (show [tS cs].length = 1 from rfl)]
  show (B_Cursor___init__ [recO PC_Cursor.C [], tS cs]).bind _ = _
  have s1 : sFldI PC_Cursor.C (Str.ofString "words") (eL F_words_of (aC (eV 1) aN)) [recO PC_Cursor.C [], tS cs] = some (.nx [recO PC_Cursor.C [(.str (Str.ofString "words"), .list (W.map Tok'.toD))], tS cs]) := by
    unfold sFldI
    rw [show eL F_words_of (aC (eV 1) aN) [recO PC_Cursor.C [], tS cs] = _ from eL_ok (aC_ok rfl rfl) h, Option.bind_some]
    show (if _ then _ else _) = _
    rw [if_pos ⟨rfl, rfl, by show 0 < 900; decide⟩]
    rfl
  have s2 : sFldI PC_Cursor.C (Str.ofString "taken") (eC (.int 0)) [recO PC_Cursor.C [(.str (Str.ofString "words"), .list (W.map Tok'.toD))], tS cs] = some (.nx [cu W 0, tS cs]) := by
    unfold sFldI
    show (if _ then _ else _) = _
    have e : getF (Str.ofString "taken") [(.str (Str.ofString "words"), .list (W.map Tok'.toD))] = none := by
      show (if (Str.ofString "taken" : Str) = Str.ofString "words" then _ else _) = _
      rw [if_neg (by decide)]
      rfl
    rw [if_pos ⟨rfl, e, by show 1 < 900; decide⟩]
    rfl
  unfold B_Cursor___init__
  rw [r_seq, s1, r_nx, r_seq, s2, r_nx]
  rfl
theorem whole_eq {W : List Tok'} {k : Nat} {t : D} {h : Int} (hp : Pr W 60 0 0 0 k t h) (hh : h ≤ 30) : F_take_whole [cu W 0, .bool true] = some (mkS (cu W k) t) := by
  refine runS_eq rfl ?_
  show B_take_whole [cu W 0, .bool true, .none, .none] = _
  unfold B_take_whole
  have a : sAsgM 0 (gTpl (gMore (gN 2) (gMore (gN 3) gEmp)) 2) (eLS 0 (RR 60 0) (aC (eC (.int 0)) aN)) [cu W 0, .bool true, .none, .none] = some (.nx [cu W k, .bool true, t, .int h]) :=
    asg_cu (k := 0) (ds := [.int 0]) rfl (by rw [r_aC, r_C, r_aN]; rfl) hp
  have c : tV (e2 pGt (eV 3) (eC (.int 30))) [cu W k, .bool true, t, .int h] = some false := tV_ok (e2_ok rfl rfl (by show some (PyData.bool (decide _)) = _; rw [decide_eq_false (by omega)]))
  rw [r_seq, if_tt (show tT (eV 1) [cu W 0, .bool true, .none, .none] = some true from rfl), a, r_nx, r_seq, if_ff c, r_skip, r_nx]
  rfl
theorem parse_eq {cs : List Nat} {W : List Tok'} {k : Nat} {t : D} {h : Int} {u : Tok'} (hw : F_words_of [tS cs] = some (.list (W.map Tok'.toD))) (hp : Pr W 60 0 0 0 k t h) (hh : h ≤ 30) (hu : W[k]? = some u) (he : u.kd = Str.ofString "end") (nt : unX t = none) :
    F_parse_expression [tS cs, .bool true] = some t := by
  refine runF_rt rfl ?_
  show B_parse_expression [tS cs, .bool true, .none, .none] = _
  unfold B_parse_expression
  have s1 : sSet 2 (eL F_Cursor___init__ (aC (eV 0) aN)) [tS cs, .bool true, .none, .none] = some (.nx [tS cs, .bool true, cu W 0, .none]) := set_nx (eL_ok (aC_ok rfl rfl) (init_eq hw))
  have s2 : sSetMS 2 3 (eLS 2 F_take_whole (aC (eV 1) aN)) [tS cs, .bool true, cu W 0, .none] = some (.nx [tS cs, .bool true, cu W k, t]) := by
    unfold sSetMS
    rw [show eLS 2 F_take_whole (aC (eV 1) aN) [tS cs, .bool true, cu W 0, .none] = some (mkS (cu W k) t) from whole_eq hp hh, Option.bind_some, unS_mk, Option.bind_some]
    simp only [nt]
    rfl
  have c : tV (e2 pNe (eMeth PC_Cursor.C (Str.ofString "kind_here") (flatF F_Cursor_kind_here) (eV 2) aN) (eC (.str (Str.ofString "end")))) [tS cs, .bool true, cu W k, t] = some false := (tV_ok (e2_ok (kh rfl hu) rfl pNe_strs)).trans (by rw [decide_eq_true he]; rfl)
  rw [r_seq, s1, r_nx, r_seq, s2, r_nx, r_seq, if_ff c, r_skip, r_nx]
  rfl
theorem al_nx : ∀ {n : Nat} {t : D}, Al n t → unX t = none
  | _ + 1, .none, _ | _ + 1, .bool _, _ | _ + 1, .int _, _ | _ + 1, .str _, _ | _ + 1, .list _, _ | _ + 1, .tuple _, _ => rfl
  | 0, d, h => by cases d <;> exact h.elim
  | _ + 1, .dict _, h => h.elim
theorem law_true (ns : List Int) (hl : ns.length ≤ 63) : F_law [.list (ns.map .int)] = some (.bool true) := by
  obtain ⟨w, r1, r2, r3, r4, r5⟩ := row_eq ns
  have tx1 := text_eq r3 (by omega)
  obtain ⟨t, h, g1, g2, g3, g4, al⟩ := g0 w r2 (by omega)
  obtain ⟨cs, hcs⟩ : ∃ cs, cs = JL ((w.map tk).map sg) := ⟨_, rfl⟩
  have wa : ∀ s ∈ w.map tk, s ∈ WA := fun s hs => by
    obtain ⟨s', h1, rfl⟩ := List.mem_map.mp hs
    have f : ∀ s ∈ WB, tk s ∈ WA := by decide +kernel
    exact f s' (r3 s' h1)
  have hN : cs.length ≤ 4000 := by
    have := JL_len (w.map tk) fun s hs => List.mem_append.mpr (.inl (wa s hs))
    rw [← hcs, List.length_map] at this
    omega
  obtain ⟨T, t1, t2, t3⟩ := run_ws hN (w.map tk) 0 [] wa hcs
  have we := words_eq hN t1
  rw [List.length_map] at t2
  obtain ⟨W, hW⟩ : ∃ W : List Tok', W = T ++ [⟨Str.ofString "end", tx [], (ln cs cs.length : Nat), (cl cs cs.length : Nat)⟩] := ⟨_, rfl⟩
  have we2 : F_words_of [tS cs] = some (.list (W.map Tok'.toD)) := by
    rw [we, hW, List.map_append]
    rfl
  have at' : At W 0 w := fun j s e => by
    obtain ⟨x, x1, x2, x3⟩ := t3 j (tk s) (by rw [List.getElem?_map, e]; rfl)
    refine ⟨x, ?_, x2, fun m => ?_, fun m => ?_⟩
    · rw [Nat.zero_add, hW, List.getElem?_append_left (List.getElem?_eq_some_iff.mp x1).1]
      exact x1
    · have f : ∀ s ∈ NM, kdS (tk s) = Str.ofString "word" := by decide +kernel
      rw [x3, f s m]
    · have f : ∀ s ∈ MM, kdS (tk s) = Str.ofString "number" := by decide +kernel
      rw [x3, f s m]
  have ue : W[0 + w.length]? = some ⟨Str.ofString "end", tx [], (ln cs cs.length : Nat), (cl cs cs.length : Nat)⟩ := by
    rw [Nat.zero_add, hW, List.getElem?_append_right (by omega), t2, Nat.sub_self]
    rfl
  have pr := g4 W 0 0 at' ⟨_, ue, by show S0 (tx []); decide +kernel⟩ (by omega) 60 (by omega)
  have pe := parse_eq we2 pr (by omega) ue rfl (al_nx al)
  have te : F__law_tree [wD w, .int 0] = some t := g3 40 (by omega)
  have ae : F__law_alike [t, t] = some (.bool true) := alike_self 40 t (al.up 40 (by omega))
  obtain ⟨NS, hNS⟩ : ∃ NS, NS = PyData.list (ns.map .int) := ⟨_, rfl⟩
  rw [← hNS] at r1 ⊢
  clear hNS
  refine runF_rt rfl ?_
  show B_law [NS, .none, .none] = _
  unfold B_law
  have s1 : sSet 1 (eL F__law_row (aC (eV 0) aN)) [NS, .none, .none] = some (.nx [NS, wD w, .none]) := set_nx (eL_ok (aC_ok rfl rfl) r1)
  have s2 : sSet 2 (e1 (replD (Str.ofString "neg") (Str.ofString "-")) (e1 (joinD (Str.ofString " ")) (eV 1))) [NS, wD w, .none] = some (.nx [NS, wD w, tS cs]) := set_nx (by
    show (joinD (Str.ofString " ") (wD w)).bind _ = _
    rw [tx1, hcs])
  have e1 : eL F_parse_expression (aC (eV 2) (aC (eC (.bool true)) aN)) [NS, wD w, tS cs] = some t := eL_ok (aC_ok rfl (aC_ok rfl rfl)) pe
  have e2 : eL F__law_tree (aC (eV 1) (aC (eC (.int 0)) aN)) [NS, wD w, tS cs] = some t := eL_ok (aC_ok rfl (aC_ok rfl rfl)) te
  rw [r_seq, s1, r_nx, r_seq, s2, r_nx]
  exact ret_rt (eL_ok (aC_ok e1 (aC_ok e2 rfl)) ae)
end
end My

namespace My
open PySem L2 Pf
theorem walk {l : PySem.W.OpenLaw} {q : Program} {loose : List Str} {XP : (Str → Option Value) → Heap → Prop} {YP : World → Heap → Prop} {d : DefRec} {K : Params → PySem.W.Frag} (hn : l.most = some 63) (hdf : d.params.defaults = [])
    (hY : ∀ (w : World) (h : Heap), YP w h → (K w.params).In h)
    (F : ∀ (w : World) (mg : Str → Option Value) (fa : Addr) (h : Heap), (K w.params).In h → h.Ns mainGlobals mg → mg d.name = some (.ref fa) →
      ∃ fd : FuncData, (∀ (s : Shared) (u : Value), BindsTo s fd ⟨[u], []⟩ [("script", u)]) ∧ ∀ base : Heap, (K w.params).In base → base.Ns mainGlobals mg → L2.FnOk l.prog w (K w.params) mg base L2.CX0 67 fa fd ["script"] (Pf.Pure (K w.params) 1 0 Pf.gLaw)) :
    PySem.W.WalkO q loose XP YP l.row.toRowW d [] (fun f vs => PySem.call f vs) :=
  L2.walk_of (n := 63) (k := 67) (x := "script") (CX := fun _ => L2.CX0) (sp := fun w => Pf.Pure (K w.params) 1 0 Pf.gLaw) hn (by decide) hdf ⟨rfl, by decide, by decide⟩ hY F
    (fun w H a ns hl _ hS => Pf.pure_law (Pf.gLaw_true hl) hS) fun _ _ _ _ _ z => z
end My
open PySem PySem.W PyProof.Rows
set_option maxRecDepth 100000 in
set_option maxHeartbeats 0 in
theorem PySem.Challenge.cw_wardens_k04_operators_without_parenthese_holds : PySem.Challenge.rw_wardens_k04_operators_without_parenthese.Holds := by
  w_on; o_law; k_head; (case hw => w_witness2)
  k_fill
  refine My.walk (l := PySem.Challenge.rw_wardens_k04_operators_without_parenthese) rfl rfl (fun w h Y => PySem.W.kIn_of Y) ?F
  case F =>
    intro w mg fa h KX G hmg
    refine' My.all_mk KX G hmg (fun ns hl => My.law_true ns hl) ?a0 ?l0 ?c0 ?k0 ?a1 ?l1 ?c1 ?k1 ?a2 ?l2 ?c2 ?k2 ?a3 ?l3 ?c3 ?k3 ?a4 ?l4 ?c4 ?k4 ?a5 ?l5 ?c5 ?k5 ?a6 ?l6 ?c6 ?k6 ?a7 ?l7 ?c7 ?k7 ?a8 ?l8 ?c8 ?k8 ?a9 ?l9 ?c9 ?k9 ?a10 ?l10 ?c10 ?k10 ?a11 ?l11 ?c11 ?k11 ?a12 ?l12 ?c12 ?k12 ?a13 ?l13 ?c13 ?k13 ?a14 ?l14 ?c14 ?k14 ?a15 ?l15 ?c15 ?k15 ?a16 ?l16 ?c16 ?k16 ?a17 ?l17 ?c17 ?k17 ?a18 ?l18 ?c18 ?k18 ?a19 ?l19 ?c19 ?k19 ?a20 ?l20 ?c20 ?k20 ?a21 ?l21 ?c21 ?k21 ?a22 ?l22 ?c22 ?k22 ?a23 ?l23 ?c23 ?k23 ?a24 ?l24 ?c24 ?k24 ?a25 ?l25 ?c25 ?k25 ?a26 ?l26 ?c26 ?k26 ?a27 ?l27 ?c27 ?k27 ?z_bool ?z_int ?z_isinstance ?z_len ?z_list ?z_max ?z_range ?z_str ?z_tuple ?pC_Cursor ?ppg_Cursor ?phd_Cursor ?ppo_Cursor ?psa_Cursor ?pmk_Cursor ?pkc_Cursor ?pn_Cursor_words ?pn_Cursor_taken ?apCursor0 ?ipCursor0 ?lpCursor0 ?cpCursor0 ?kpCursor0 ?apCursor1 ?ipCursor1 ?lpCursor1 ?cpCursor1 ?kpCursor1 ?apCursor2 ?ipCursor2 ?lpCursor2 ?cpCursor2 ?kpCursor2 ?apCursor5 ?ipCursor5 ?lpCursor5 ?cpCursor5 ?kpCursor5 ?apCursor6 ?ipCursor6 ?lpCursor6 ?cpCursor6 ?kpCursor6 ?apCursor7 ?ipCursor7 ?lpCursor7 ?cpCursor7 ?kpCursor7 ?apCursor8 ?ipCursor8 ?lpCursor8 ?cpCursor8 ?kpCursor8 ?apCursor9 ?ipCursor9 ?lpCursor9 ?cpCursor9 ?kpCursor9 ?apCursor10 ?ipCursor10 ?lpCursor10 ?cpCursor10 ?kpCursor10 ?gc_DEEPEST ?gc_HIGHEST ?gn_CALCULATIONS ?gl_CALCULATIONS ?gn_COMPARISONS ?gl_COMPARISONS ?gn_PREFIXES ?gl_PREFIXES ?gn_RESERVED ?gl_RESERVED ?gn_SIGNS ?gl_SIGNS ?gn_TIMED ?gl_TIMED ?gc_BLANKS ?gc_DIGITS ?gc_LETTERS ?gn_LONGEST ?gl_LONGEST ?gk_LONGEST ?gs_LONGEST ?gn_MINIMUM_AND_MAXIMUM ?gl_MINIMUM_AND_MAXIMUM ?gk_MINIMUM_AND_MAXIMUM ?gs_MINIMUM_AND_MAXIMUM
    (case a0 => k_is)
    (case l0 => k_is)
    (case c0 => k_is)
    (case k0 => k_is)
    (case a1 => k_is)
    (case l1 => k_is)
    (case c1 => k_is)
    (case k1 => k_is)
    (case a2 => k_is)
    (case l2 => k_is)
    (case c2 => k_is)
    (case k2 => k_is)
    (case a3 => k_is)
    (case l3 => k_is)
    (case c3 => k_is)
    (case k3 => k_is)
    (case a4 => k_is)
    (case l4 => k_is)
    (case c4 => k_is)
    (case k4 => k_is)
    (case a5 => k_is)
    (case l5 => k_is)
    (case c5 => k_is)
    (case k5 => k_is)
    (case a6 => k_is)
    (case l6 => k_is)
    (case c6 => k_is)
    (case k6 => k_is)
    (case a7 => k_is)
    (case l7 => k_is)
    (case c7 => k_is)
    (case k7 => k_is)
    (case a8 => k_is)
    (case l8 => k_is)
    (case c8 => k_is)
    (case k8 => k_is)
    (case a9 => k_is)
    (case l9 => k_is)
    (case c9 => k_is)
    (case k9 => k_is)
    (case a10 => k_is)
    (case l10 => k_is)
    (case c10 => k_is)
    (case k10 => k_is)
    (case a11 => k_is)
    (case l11 => k_is)
    (case c11 => k_is)
    (case k11 => k_is)
    (case a12 => k_is)
    (case l12 => k_is)
    (case c12 => k_is)
    (case k12 => k_is)
    (case a13 => k_is)
    (case l13 => k_is)
    (case c13 => k_is)
    (case k13 => k_is)
    (case a14 => k_is)
    (case l14 => k_is)
    (case c14 => k_is)
    (case k14 => k_is)
    (case a15 => k_is)
    (case l15 => k_is)
    (case c15 => k_is)
    (case k15 => k_is)
    (case a16 => k_is)
    (case l16 => k_is)
    (case c16 => k_is)
    (case k16 => k_is)
    (case a17 => k_is)
    (case l17 => k_is)
    (case c17 => k_is)
    (case k17 => k_is)
    (case a18 => k_is)
    (case l18 => k_is)
    (case c18 => k_is)
    (case k18 => k_is)
    (case a19 => k_is)
    (case l19 => k_is)
    (case c19 => k_is)
    (case k19 => k_is)
    (case a20 => k_is)
    (case l20 => k_is)
    (case c20 => k_is)
    (case k20 => k_is)
    (case a21 => k_is)
    (case l21 => k_is)
    (case c21 => k_is)
    (case k21 => k_is)
    (case a22 => k_is)
    (case l22 => k_is)
    (case c22 => k_is)
    (case k22 => k_is)
    (case a23 => k_is)
    (case l23 => k_is)
    (case c23 => k_is)
    (case k23 => k_is)
    (case a24 => k_is)
    (case l24 => k_is)
    (case c24 => k_is)
    (case k24 => k_is)
    (case a25 => k_is)
    (case l25 => k_is)
    (case c25 => k_is)
    (case k25 => k_is)
    (case a26 => k_is)
    (case l26 => k_is)
    (case c26 => k_is)
    (case k26 => k_is)
    (case a27 => k_is)
    (case l27 => k_is)
    (case c27 => k_is)
    (case k27 => k_is)
    (case z_bool => k_is)
    (case z_int => k_is)
    (case z_isinstance => k_is)
    (case z_len => k_is)
    (case z_list => k_is)
    (case z_max => k_is)
    (case z_range => k_is)
    (case z_str => k_is)
    (case z_tuple => k_is)
    (case pC_Cursor => k_is)
    (case ppg_Cursor => k_is)
    (case phd_Cursor => k_is)
    (case ppo_Cursor => k_is)
    (case psa_Cursor => k_is)
    (case pmk_Cursor => k_is)
    (case pkc_Cursor => k_is)
    (case pn_Cursor_words => k_is)
    (case pn_Cursor_taken => k_is)
    (case apCursor0 => k_is)
    (case ipCursor0 => k_is)
    (case lpCursor0 => k_is)
    (case cpCursor0 => k_is)
    (case kpCursor0 => k_is)
    (case apCursor1 => k_is)
    (case ipCursor1 => k_is)
    (case lpCursor1 => k_is)
    (case cpCursor1 => k_is)
    (case kpCursor1 => k_is)
    (case apCursor2 => k_is)
    (case ipCursor2 => k_is)
    (case lpCursor2 => k_is)
    (case cpCursor2 => k_is)
    (case kpCursor2 => k_is)
    (case apCursor5 => k_is)
    (case ipCursor5 => k_is)
    (case lpCursor5 => k_is)
    (case cpCursor5 => k_is)
    (case kpCursor5 => k_is)
    (case apCursor6 => k_is)
    (case ipCursor6 => k_is)
    (case lpCursor6 => k_is)
    (case cpCursor6 => k_is)
    (case kpCursor6 => k_is)
    (case apCursor7 => k_is)
    (case ipCursor7 => k_is)
    (case lpCursor7 => k_is)
    (case cpCursor7 => k_is)
    (case kpCursor7 => k_is)
    (case apCursor8 => k_is)
    (case ipCursor8 => k_is)
    (case lpCursor8 => k_is)
    (case cpCursor8 => k_is)
    (case kpCursor8 => k_is)
    (case apCursor9 => k_is)
    (case ipCursor9 => k_is)
    (case lpCursor9 => k_is)
    (case cpCursor9 => k_is)
    (case kpCursor9 => k_is)
    (case apCursor10 => k_is)
    (case ipCursor10 => k_is)
    (case lpCursor10 => k_is)
    (case cpCursor10 => k_is)
    (case kpCursor10 => k_is)
    (case gc_DEEPEST => k_is)
    (case gc_HIGHEST => k_is)
    (case gn_CALCULATIONS => k_is)
    (case gl_CALCULATIONS => k_is)
    (case gn_COMPARISONS => k_is)
    (case gl_COMPARISONS => k_is)
    (case gn_PREFIXES => k_is)
    (case gl_PREFIXES => k_is)
    (case gn_RESERVED => k_is)
    (case gl_RESERVED => k_is)
    (case gn_SIGNS => k_is)
    (case gl_SIGNS => k_is)
    (case gn_TIMED => k_is)
    (case gl_TIMED => k_is)
    (case gc_BLANKS => k_is)
    (case gc_DIGITS => k_is)
    (case gc_LETTERS => k_is)
    (case gn_LONGEST => k_is)
    (case gl_LONGEST => k_is)
    (case gk_LONGEST => exact ⟨⟨_, _, rfl, rfl⟩, ⟨_, _, rfl, rfl⟩, trivial⟩)
    (case gs_LONGEST => first | rfl | decide | k_is)
    (case gn_MINIMUM_AND_MAXIMUM => k_is)
    (case gl_MINIMUM_AND_MAXIMUM => k_is)
    (case gk_MINIMUM_AND_MAXIMUM => exact ⟨⟨_, _, rfl, rfl⟩, ⟨_, _, rfl, rfl⟩, trivial⟩)
    (case gs_MINIMUM_AND_MAXIMUM => first | rfl | decide | k_is)


