import PyProof.Rows.All
import Wide.All
import OpenK.AllK
import Wide.FinOn
import HandS.ForMost
import HandS.Codes
import HandS.Wide
import HandS.ReplaceLit
import HandS.ReplaceDef
import HandS.IsInst
import HandS.More
import HandS.StrMore
import HandS.Flow
import HandS.Zip
import HandS.ExcInit
import HandS.ExcField
import HandS.ExcIs
import HandS.ExcOwn
import HandS.TryMany
import HandS.OwnEq
import HandS.FStr
import HandS.Star
import HandS.WordsExc
import PyProof.InstNe
import HandS.ExcValue
import HandS.RaiseMore
import HandS.Lambda
import HandS.EndTab
import KE.KNest
import KE.KSortKey
import HandS.SortKw
import HandS.Iter
import PyProof.ListStr
import PyProof.Draws
import KE.GoesEnumKw
import KE.KDictDisplayH
import KE.KOwnIter
import HandS.IterVal
import HandS.DictTup
import PyProof.Rows.TupDisplay
import HandS.Walk
import HandS.Set
import HandS.SetTxt0
import HandS.SetFor
import HandS.Strs
import PyProof.NeKinds
import HandS.MakeKw
import HandS.Style
import HandS.Deep
import HandS.TupAny
import HandS.Defaults
import PySem.Challenge.RW_textworkshop_k28_scripts_made_and_refuse
set_option Elab.async false
set_option linter.all false
set_option maxRecDepth 100000
set_option maxHeartbeats 4000000
namespace Vf
open PySem PySem.Spec PyProof.Rows L2 SX

/-! ### heaps: all but dicts stays -/
def Ks (H H' : Hp) : Prop := (∀ b o, H b = some o → (∀ kvs, o ≠ .dK kvs) → H' b = some o) ∧ ∀ b, H' b = none → H b = none
def Tk (H H' : Hp) : Prop := ∀ b xs, H b = some (.tup xs) → H' b = some (.tup xs)
section
variable {K : PySem.W.Frag} {H H1 H2 H0 : Hp} {a p q : Addr} {xs : List V} {o : HO}
theorem Ks.refl (H : Hp) : Ks H H := ⟨fun _ _ h _ => h, fun _ h => h⟩
theorem Ks.trans (a : Ks H H1) (b : Ks H1 H2) : Ks H H2 := ⟨fun c o h n => b.1 c o (a.1 c o h n) n, fun c h => a.2 c (b.2 c h)⟩
theorem Ks.of (s : Same H H1) : Ks H H1 := ⟨fun b o h _ => s b o h, fun b h => s.free h⟩
theorem Ks.tk (s : Ks H H1) : Tk H H1 := fun b xs h => s.1 b _ h (fun _ e => nomatch e)
theorem Ks.lst (s : Ks H H1) (h : H a = some (.lst xs)) : H1 a = some (.lst xs) := s.1 a _ h (fun _ e => nomatch e)
theorem Ks.tup (s : Ks H H1) (h : H a = some (.tup xs)) : H1 a = some (.tup xs) := s.1 a _ h (fun _ e => nomatch e)
theorem Ks.seq (s : Ks H H1) (h : SqL K H a xs) : SqL K H1 a xs := by
  rcases h with (h | ⟨o, h⟩) | h
  · exact .inl (.inl (s.1 _ _ h (fun _ e => nomatch e)))
  · exact .inl (.inr ⟨o, s.1 _ _ h (fun _ e => nomatch e)⟩)
  · exact .inr h
theorem Ks.seqT (s : Ks H H1) (h : SqT K H a xs) : SqT K H1 a xs := by
  rcases h with (h | ⟨o, h⟩) | h
  · exact .inl (.inl (s.1 _ _ h (fun _ e => nomatch e)))
  · exact .inl (.inr ⟨o, s.1 _ _ h (fun _ e => nomatch e)⟩)
  · exact .inr h
theorem Ks.free (s : Ks H H1) (h : H1 a = none) : H a = none := s.2 a h
theorem Ks.upd (s : Ks H0 H) (h : H0 p = none) (o : HO) : Ks H0 (upd H p o) := ⟨fun b u e n => by
  rw [upd_ne (ne_of_none e h)]
  exact s.1 b u e n, fun b e => by
  by_cases z : b = p
  · rw [z]; exact h
  · rw [upd_ne z] at e
    exact s.2 b e⟩
theorem Ks.new (s : Ks H0 H) (h : H p = none) (o : HO) : Ks H0 (L2.upd H p o) := s.upd (s.free h) o
theorem Ks.new1 (h : H p = none) (o : HO) : Ks H (L2.upd H p o) := (Ks.refl H).upd h o
theorem Ks.dict {kvs kvs' : List (Key × V)} (h : H p = some (.dK kvs)) : Ks H (L2.upd H p (.dK kvs')) := ⟨fun b u e n => by
  rw [upd_ne (fun z => by rw [z, h] at e; exact n kvs (Option.some.inj e).symm)]
  exact e, fun b e => by
  by_cases z : b = p
  · rw [z, upd_same] at e; cases e
  · rw [upd_ne z] at e; exact e⟩
theorem Tk.refl (H : Hp) : Tk H H := fun _ _ h => h
theorem Tk.trans (a : Tk H H1) (b : Tk H1 H2) : Tk H H2 := fun c xs h => b c xs (a c xs h)
theorem Tk.lst {ys : List V} (s : Tk H0 H) (h : H p = some (.lst ys)) : Tk H0 (L2.upd H p o) := fun b zs e => by
  have e1 := s b zs e
  rw [upd_ne (fun z => by rw [z, h] at e1; cases e1)]
  exact e1
theorem Tk.new (s : Tk H0 H) (h : H p = none) : Tk H0 (L2.upd H p o) := fun b zs e => by
  have e1 := s b zs e
  rw [upd_ne (ne_of_none e1 h)]
  exact e1
end
theorem szB {n : Nat} (h : n ≤ 1000000) : n ≤ sizeLine := Nat.le_trans h (by decide)
theorem szL {n : Nat} (h : n ≤ 1000000) : n < sizeLine := Nat.lt_of_le_of_lt h (by decide)
theorem sz24 {n : Nat} (h : n ≤ 1000000) : n ≤ 16777216 := Nat.le_trans h (by decide)

def signsL : List Nat := [10, 32, 33, 34, 35, 36, 38, 39, 40, 41, 42, 43, 44, 45, 46, 47, 48, 49, 50, 51, 52, 53, 54, 55, 56, 57, 58, 59, 60, 61, 62, 63, 64, 65, 66, 67, 68, 69, 70, 71, 72, 73, 74, 75, 76, 77, 78, 79, 80, 81, 82, 83, 84, 85, 86, 87, 88, 89, 90, 91, 92, 93, 94, 95, 96, 97, 98, 99, 100, 101, 102, 103, 104, 105, 106, 107, 108, 109, 110, 111, 112, 113, 114, 115, 116, 117, 118, 119, 120, 121, 122, 123, 124, 125, 126]
def lowL : List Nat := [97, 98, 99, 100, 101, 102, 103, 104, 105, 106, 107, 108, 109, 110, 111, 112, 113, 114, 115, 116, 117, 118, 119, 120, 121, 122]
def figL : List Nat := [48, 49, 50, 51, 52, 53, 54, 55, 56, 57]
/-! ### the pen: a dict of five entries -/
def pk (c : Addr) (at_ d ct fo : Int) : List (Key × V) := [(.inr "cells", .ref c), (.inr "at", .int at_), (.inr "digits", .int d), (.inr "count", .int ct), (.inr "fold", .int fo)]
def PenAt (H : Hp) (p c : Addr) (m : Nat) : Prop := ∃ (ns : List Int) (at_ d ct fo : Int), H p = some (.dK (pk c at_ d ct fo)) ∧ H c = some (.lst (ns.map V.int)) ∧ ns.length ≤ 63 ∧
  0 ≤ at_ ∧ 0 ≤ d ∧ 0 ≤ ct ∧ ct ≤ (m : Int) ∧ 0 ≤ fo ∧ fo < 2147483648
section
variable {H H1 : Hp} {p c q : Addr} {m n : Nat} {o : HO}
theorem PenAt.mono (h : PenAt H p c m) (l : m ≤ n) : PenAt H p c n := by
  obtain ⟨ns, a, d, t, f, h1, h2, h3, h4, h5, h6, h7, h8, h9⟩ := h
  exact ⟨ns, a, d, t, f, h1, h2, h3, h4, h5, h6, by omega, h8, h9⟩
theorem PenAt.upd (h : PenAt H p c m) (n1 : q ≠ p) (n2 : q ≠ c) : PenAt (L2.upd H q o) p c m := by
  obtain ⟨ns, a, d, t, f, h1, h2, r⟩ := h
  exact ⟨ns, a, d, t, f, by rw [upd_ne n1.symm]; exact h1, by rw [upd_ne n2.symm]; exact h2, r⟩
theorem PenAt.ne (h : PenAt H p c m) (e : H q = none) : q ≠ p ∧ q ≠ c := by
  obtain ⟨ns, a, d, t, f, h1, h2, r⟩ := h
  exact ⟨(ne_of_none h1 e).symm, (ne_of_none h2 e).symm⟩
theorem PenAt.new (h : PenAt H p c m) (e : H q = none) : PenAt (L2.upd H q o) p c m := h.upd (h.ne e).1 (h.ne e).2
theorem PenAt.same (h : PenAt H p c m) (s : Same H H1) : PenAt H1 p c m := by
  obtain ⟨ns, a, d, t, f, h1, h2, r⟩ := h
  exact ⟨ns, a, d, t, f, s _ _ h1, s _ _ h2, r⟩
end

section
variable {H : Hp} {p c : Addr} {a d t f z : Int}
theorem pg_cells (h : H p = some (.dK (pk c a d t f))) : DGet H p (.str "cells") (some (.ref c)) := .inl ⟨_, Sum.inr "cells", .inl h, rfl, rfl⟩
theorem pg_at (h : H p = some (.dK (pk c a d t f))) : DGet H p (.str "at") (some (.int a)) := .inl ⟨_, Sum.inr "at", .inl h, rfl, rfl⟩
theorem pg_digits (h : H p = some (.dK (pk c a d t f))) : DGet H p (.str "digits") (some (.int d)) := .inl ⟨_, Sum.inr "digits", .inl h, rfl, rfl⟩
theorem pg_count (h : H p = some (.dK (pk c a d t f))) : DGet H p (.str "count") (some (.int t)) := .inl ⟨_, Sum.inr "count", .inl h, rfl, rfl⟩
theorem pg_fold (h : H p = some (.dK (pk c a d t f))) : DGet H p (.str "fold") (some (.int f)) := .inl ⟨_, Sum.inr "fold", .inl h, rfl, rfl⟩
theorem pp_at (h : H p = some (.dK (pk c a d t f))) : DPut H p (.str "at") (.int z) (upd H p (.dK (pk c z d t f))) := .inl ⟨_, Sum.inr "at", h, rfl, szL (by show 5 ≤ 1000000; decide), rfl⟩
theorem pp_digits (h : H p = some (.dK (pk c a d t f))) : DPut H p (.str "digits") (.int z) (upd H p (.dK (pk c a z t f))) := .inl ⟨_, Sum.inr "digits", h, rfl, szL (by show 5 ≤ 1000000; decide), rfl⟩
theorem pp_count (h : H p = some (.dK (pk c a d t f))) : DPut H p (.str "count") (.int z) (upd H p (.dK (pk c a d z f))) := .inl ⟨_, Sum.inr "count", h, rfl, szL (by show 5 ≤ 1000000; decide), rfl⟩
theorem pp_fold (h : H p = some (.dK (pk c a d t f))) : DPut H p (.str "fold") (.int z) (upd H p (.dK (pk c a d t z))) := .inl ⟨_, Sum.inr "fold", h, rfl, szL (by show 5 ≤ 1000000; decide), rfl⟩
end

theorem ix_tupK {X : Cx} {K : PySem.W.Frag} (hK : X.K = K) : IxR X (rIxT K) := by subst hK; exact ix_tup
theorem ix_listK {X : Cx} {K : PySem.W.Frag} (hK : X.K = K) : IxR X (rIxL K) := by subst hK; exact ix_list
theorem ix_seqK {X : Cx} {K : PySem.W.Frag} (hK : X.K = K) : IxR X (rIx K) := by subst hK; exact ix_seq
theorem op_in_seqK {X : Cx} {K : PySem.W.Frag} (hK : X.K = K) : OpR X (compareOp .In) (rIn K false) := by subst hK; exact op_in_seq
theorem pe_c0 {X : Cx} {k j : Nat} {x : Str} {sp : Sp} {dvs : List V} {p pos : Pos} (c : C8.Cal X.prog X.w X.K X.mg X.base k x sp dvs) (hr : Room j X.A) (hk : k ≤ j) (hg : Gl X x) (hdb : (x == ("__debug__" : Str)) = false := by decide) :
    PE X (.Call (.Name x p) [] [] pos) (tCall sp dvs C8.E0 tNil) := by
  obtain ⟨f, fd, ps, ds, F, hm, kp, b, d⟩ := c.ex
  exact pe_call0 F (hr.mono hk) hg hm kp b d C8.pass0 hdb

/-! ### '..' * n -/
def repL (n : Nat) (l : List Nat) : List Nat := (List.replicate n l).flatten
theorem rep_nil : ∀ n : Nat, repL n [] = []
  | 0 => rfl
  | n + 1 => rep_nil n
theorem rep_len (l : List Nat) : ∀ n : Nat, (repL n l).length = n * l.length
  | 0 => by rw [Nat.zero_mul]; rfl
  | n + 1 => by
    show (l ++ repL n l).length = _
    rw [List.length_append, rep_len l n, Nat.succ_mul, Nat.add_comm]
theorem fold_rep (l acc : List Nat) : ∀ n : Nat, ((List.replicate n l.toArray).foldl (· ++ ·) acc.toArray) = (acc ++ repL n l).toArray
  | 0 => by
    show acc.toArray = (acc ++ []).toArray
    rw [List.append_nil]
  | n + 1 => by
    rw [List.replicate_succ, List.foldl_cons]
    rw [List.append_toArray acc l, fold_rep l (acc ++ l) n]
    unfold repL
    rw [List.replicate_succ, List.flatten_cons, List.append_assoc]
theorem op_rep_str {X : Cx} : OpR X (binaryOp .Mult) (fun x y H Q => ∃ (l : List Nat) (n : Nat), x = .str (S l) ∧ y = .int (n : Int) ∧ n ≤ 1000000 ∧ l.length * n ≤ 1000000 ∧ Q (.str (S (repL n l))) H) := by
  intro pins s σ H x y v u Q I rx ry h
  obtain ⟨l, n, rfl, rfl, hn, hl, q⟩ := h
  obtain ⟨t, rfl⟩ := rx
  obtain ⟨t', rfl⟩ := ry
  have e63 : (2 : Int) ^ 63 = 9223372036854775808 := by decide
  refine PySem.P.mul_str ?_ ?_ ?_ ?_
  · rw [decide_eq_false (by omega), decide_eq_false (by omega)]; rfl
  · intro h1 h2
    rw [S_len]
    have h3 : (1 : Int) ≤ n := by omega
    have h4 : (l.length : Int) * n ≤ 1000000 := by (rw [← Int.natCast_mul]; omega)
    have h5 : (l.length : Int) ≤ (2 ^ 63 - 1) / (n : Int) := by
      rw [Int.le_ediv_iff_mul_le (by omega)]
      omega
    omega
  · intro h1 h2
    rw [S_len]
    unfold Builtin.Str.tooLong
    have e : (sizeLine : Nat) = 16777216 := by decide
    rw [e]
    exact decide_eq_false (by rw [Int.toNat_natCast]; omega)
  · have r0 : repL 0 l = [] := rfl
    have r1 : repL 1 l = l := List.append_nil l
    by_cases c0 : n = 0
    · subst c0
      rw [if_pos (by decide)]
      exact ⟨by decide, ⟨.str (S (repL 0 l)), H, I.tok _, ⟨_, rfl⟩, q⟩⟩
    · rw [if_neg (by omega)]
      by_cases c1 : ((n : Int) == 1 || (S l).length == 0) = true
      · rw [if_pos c1]
        have er : repL n l = l := by
          rw [Bool.or_eq_true] at c1
          rcases c1 with c1 | c1
          · have : n = 1 := by
              have := of_decide_eq_true c1
              omega
            rw [this, r1]
          · rw [S_len] at c1
            have : l = [] := List.eq_nil_of_length_eq_zero (eq_of_beq c1)
            subst this
            exact rep_nil n
        rw [er] at q
        exact ⟨.str (S l), H, I, ⟨_, rfl⟩, q⟩
      · rw [if_neg c1]
        have e := fold_rep l [] n
        have e' : ((List.replicate n l.toArray).foldl (· ++ ·) #[]) = (repL n l).toArray := e
        have e2 : (n : Int).toNat = n := Int.toNat_natCast n
        have e3 : (⟨(List.replicate (n : Int).toNat (S l).cps).foldl (· ++ ·) #[]⟩ : Str) = S (repL n l) := by
          rw [e2]
          exact congrArg Str.mk e'
        rw [e3]
        have e24 : (sizeLine : Nat) = 16777216 := by decide
        refine ⟨?_, ⟨.str (S (repL n l)), H, I.tok _, ⟨_, rfl⟩, q⟩⟩
        have el := rep_len l n
        rw [S_len, el, e24, Nat.mul_comm]
        omega

/-! ### D.get(key, x) of a dict of the module, keys texts -/
def KD (K : PySem.W.Frag) (w : World) (d : Addr) (f : Str → Option V) : Prop := ∃ es n, K.lookup d = some ⟨.type "dict", none, .dict es n, #[]⟩ ∧ PySem.W.KeysLit w.params es.toList ∧ (d == sysModules) = false ∧ ∀ z, RelO (f z) (findBy Value.isStrOf es z)
def tKGet (K : PySem.W.Frag) (w : World) (td ty tx : TE) : TE := fun σ H Q => td σ H fun x H1 => ∃ d f, x = .ref d ∧ KD K w d f ∧ ty σ H1 fun y H2 => tx σ H2 fun z H3 => ∃ k, y = .str k ∧ Q ((f k).getD z) H3
theorem pe_kget {X : Cx} {o e f : Expr} {apos cpos : Pos} {td ty tx : TE} {K : PySem.W.Frag} {w : World} (hK : X.K = K) (hw : X.w = w) (ho : PE X o td) (he : PE X e ty) (hf : PE X f tx) (m : M2 X o "get" apos e f cpos) : PE X (.Call (.Attribute o "get" apos) [e, f] [] cpos) (tKGet K w td ty tx) := by
  subst hK hw
  refine ⟨fun pins s σ H Q I h => ?_⟩
  refine wpAny_Call_method m.base m.few m.line PySem.F.plainAttrs_dict PySem.F.slot_dict_get PySem.F.type_dict_get (thn (ho.run pins s σ H _ I h) fun u s1 ⟨x, H1, I1, rx, d, g, ex, ⟨es, n, hl, hk, low, hg⟩, q1⟩ => ?_)
  subst ex
  obtain rfl : u = Value.ref d := rx
  have hm := PySem.W.mapOf_K (prog := X.prog) (w := X.w) I1.kIn hl hk
  refine ⟨hm.typeIs, fun b q => ?_, ?_⟩
  · cases q
    exact ⟨_, I1.kIn _ _ hl, rfl⟩
  rw [m.trees]
  refine Calls.callWith_builtin rfl (Calls.evalArgs_plain (Calls.spliced_cons (thn (he.run pins s1 σ H1 _ I1 q1) fun iv s2 ⟨y, H2, I2, ry, q2⟩ =>
    Calls.spliced_cons (thn (hf.run pins s2 σ H2 _ I2 q2) fun fv s3 ⟨z, H3, I3, rz, k, ey, q3⟩ => Calls.spliced_nil ?_))))
  subst ey
  obtain ⟨t, rfl⟩ := ry
  have hm3 := PySem.W.mapOf_K (prog := X.prog) (w := X.w) I3.kIn hl hk
  refine call_meetsIn PySem.F.slot_dict_get hm3.typeIs PySem.F.entry_dict_get (PySem.F.args_dict_get_3 _ _ _) (meets_dict_get_default (strKind X.prog X.w) d (strKind_is X.prog X.w k t) low fv) ⟨_, hm3, ⟨_, H3, I3.tok _, ?_, q3⟩⟩
  exact (hg k).getD rz
end Vf

set_option maxRecDepth 100000
set_option maxHeartbeats 4000000
namespace Vf
open PySem PySem.Spec PyProof.Rows L2 SX
/-! ### defs that may raise -/
structure CalX (P : Program) (w : World) (K : PySem.W.Frag) (mg : Str → Option Value) (base : Heap) (k : Nat) (x : Str) (sp : Sp) : Prop where
  ex : ∃ (f : Addr) (fd : FuncData) (ps : List Str), FnOk P w K mg base (L2.CX P w) k f fd ps sp ∧ mg x = some (.ref f) ∧ PySem.W.keepIn K (.ref f) = true ∧ Binds K fd ps []
structure MetX (P : Program) (w : World) (K : PySem.W.Frag) (mg : Str → Option Value) (base : Heap) (k : Nat) (C : Addr) (m : Str) (sp : Sp) : Prop where
  ex : ∃ (f : Addr) (fd : FuncData) (ps : List Str), Cls K C ∧ Meth K C m f ∧ FnOk P w K mg base (L2.CX P w) k f fd ps sp ∧ Binds K fd ps []
section
variable {P : Program} {w : World} {K : PySem.W.Frag} {mg : Str → Option Value} {base : Heap}
theorem fnX {x q : Str} {st : Stmt} {f : Addr} {fd : FuncData} {N ps : List Str} {k : Nat} {sp : Sp} (F : C8.Fun K x q st f fd) (S : FnScope N ps (C8.fnScope st)) (len : ∀ vs H Q E, sp vs H Q E → vs.length = ps.length)
    (hb : ∀ (c : Value) (A : Around) (outer : List Env) (s : Shared) (H : Hp) (vs : List V) (Q : VK) (E : XK), Room k (A.deeper (envOfC q (C8.fnScope st) s.heap.objs.size f c)) → sp vs H Q E →
      ∃ t, PSs (cxOf (L2.CX P w) P w K mg base N q (C8.fnScope st) f c A outer s H E) (C8.fnBody st) t ∧ t { nx := fun _ h => Q .non h, rt := Q } (start N vs) H) : FnOk P w K mg base (L2.CX P w) (k + 1) f fd ps sp := by
  obtain ⟨oc, od, dV, kV, dc, pm, an, c, ct, sl, rfl, lk, hc⟩ := F.ex
  exact fn_of lk hc S len fun A outer s H vs Q E hr h => hb c A outer s H vs Q E hr h
theorem calX {x : Str} {st : Stmt} {f : Addr} {fd : FuncData} {N ps : List Str} {k : Nat} {sp : Sp} (F : C8.Def K mg x st f fd) (b : Binds K fd ps []) (S : FnScope N ps (C8.fnScope st)) (len : ∀ vs H Q E, sp vs H Q E → vs.length = ps.length)
    (hb : ∀ (c : Value) (A : Around) (outer : List Env) (s : Shared) (H : Hp) (vs : List V) (Q : VK) (E : XK), Room k (A.deeper (envOfC x (C8.fnScope st) s.heap.objs.size f c)) → sp vs H Q E →
      ∃ t, PSs (cxOf (L2.CX P w) P w K mg base N x (C8.fnScope st) f c A outer s H E) (C8.fnBody st) t ∧ t { nx := fun _ h => Q .non h, rt := Q } (start N vs) H) : CalX P w K mg base (k + 1) x sp :=
  ⟨f, fd, ps, fnX F.fn S len hb, F.mgf, F.kp, b⟩
theorem metX {m q : Str} {C : Addr} {st : Stmt} {f : Addr} {fd : FuncData} {N ps : List Str} {k : Nat} {sp : Sp} (c : Cls K C) (me : Meth K C m f) (F : C8.Fun K m q st f fd) (b : Binds K fd ps []) (S : FnScope N ps (C8.fnScope st)) (len : ∀ vs H Q E, sp vs H Q E → vs.length = ps.length)
    (hb : ∀ (c : Value) (A : Around) (outer : List Env) (s : Shared) (H : Hp) (vs : List V) (Q : VK) (E : XK), Room k (A.deeper (envOfC q (C8.fnScope st) s.heap.objs.size f c)) → sp vs H Q E →
      ∃ t, PSs (cxOf (L2.CX P w) P w K mg base N q (C8.fnScope st) f c A outer s H E) (C8.fnBody st) t ∧ t { nx := fun _ h => Q .non h, rt := Q } (start N vs) H) : MetX P w K mg base (k + 1) C m sp :=
  ⟨f, fd, ps, c, me, fnX F S len hb, b⟩
end
section
variable {X : Cx} {k j : Nat} {x m : Str} {C : Addr} {sp : Sp} {p pos apos : Pos} {e o : Expr} {es : List Expr} {t : TA} {ta : TE} {W : WX}
/-- such a def called where what it raises is wished for -/
theorem pe_cx (c : CalX X.prog X.w X.K X.mg X.base k x sp) (hr : Room j X.A) (hk : k ≤ j) (hg : Gl X x) (tk : Takes X W) (ha : PA X (e :: es) t)
    (hdb : (x == ("__debug__" : Str)) = false := by decide) (he : starEach (e :: es) X.env = (false, eval e X.env) :: starEach es X.env := by rfl) (hpl : (backTo pos (starEach es X.env)).any (·.1) = false := by rfl) :
    PE X (.Call (.Name x p) (e :: es) [] pos) (tCallS sp (WE W) t) := by
  obtain ⟨f, fd, ps, F, hm, kp, b⟩ := c.ex
  exact pe_callS F (hr.mono hk) hg hm kp b (fun σ => passAt tk σ) ha hdb he hpl
/-- .. called where it raises nothing -/
theorem pe_cx0 (c : CalX X.prog X.w X.K X.mg X.base k x sp) (hr : Room j X.A) (hk : k ≤ j) (hg : Gl X x) (ha : PA X (e :: es) t)
    (hdb : (x == ("__debug__" : Str)) = false := by decide) (he : starEach (e :: es) X.env = (false, eval e X.env) :: starEach es X.env := by rfl) (hpl : (backTo pos (starEach es X.env)).any (·.1) = false := by rfl) :
    PE X (.Call (.Name x p) (e :: es) [] pos) (tCall sp [] E0 t) := by
  obtain ⟨f, fd, ps, F, hm, kp, b⟩ := c.ex
  exact pe_call F (hr.mono hk) hg hm kp b .nil passL ha hdb he hpl
def tMx (C : Addr) (m : Str) (sp : Sp) (E : L2.St → XK) (ta : TE) (t : TA) : TE := fun σ H Q => ta σ H fun v H1 => ∃ a dx fs, v = .ref a ∧ H1 a = some (.ins C dx fs) ∧ fs.lookup m = none ∧ t σ H1 fun vs H2 => sp (v :: vs) H2 Q (E σ)
/-- o.m(e, ..) that may raise -/
theorem pe_mx {pl : Sem Bool} (c : MetX X.prog X.w X.K X.mg X.base k C m sp) (hr : Room j X.A) (hk : k ≤ j) (tk : Takes X W) (he : PE X o ta) (ha : PA X (e :: es) t)
    (hst : starEach (e :: es) X.env = (false, eval e X.env) :: starEach es X.env := by rfl) (hpl : (backTo pos (starEach es X.env)).any (·.1) = false := by rfl)
    (ht : eval (.Call (.Attribute o m apos) (e :: es) [] pos) X.env = (do
      let ov ← eval o X.env
      standAt apos.atName
      let (f, first) ← holding [ov] (getMethod ov m pl)
      callWith pos f first (backTo pos (starEach (e :: es) X.env)) (backToKw pos (keywordEach [] X.env))) := by rfl) :
    PE X (.Call (.Attribute o m apos) (e :: es) [] pos) (tMx C m sp (WE W) ta t) := by
  obtain ⟨f, fd, ps, hc, hm, F, b⟩ := c.ex
  refine ⟨fun pins s σ H Q I h => ?_⟩
  refine PySem.W.methodCall_KW (pl := pl) (thn (he.run pins s σ H _ I h) fun u s1 ⟨v, H1, I1, rx, a, dx, fs, ex, ea, l, q⟩ => ?_) ht
  subst ex
  obtain rfl : u = Value.ref a := rx
  refine getmeth_ok I1 ea hc hm l ?_
  refine PySem.W.callWith_K (first := [.ref a]) (h₀ := X.base) I.ok.mod.kin hm.kp (thn (ha.run pos pins s1 σ H1 _ I1 q) fun us s2 ⟨vs, H2, I2, r, q2⟩ => ⟨I2.kIn, ?_⟩) hst hpl
  exact run_fnS (us := .ref a :: us) (vs := .ref a :: vs) F (hr.mono hk) b (passAt tk σ) I2 (.cons rfl r) q2
/-- o.m() that may raise -/
theorem pe_mx0 {pl : Sem Bool} (c : MetX X.prog X.w X.K X.mg X.base k C m sp) (hr : Room j X.A) (hk : k ≤ j) (tk : Takes X W) (he : PE X o ta)
    (ht : eval (.Call (.Attribute o m apos) [] [] pos) X.env = (do
      let ov ← eval o X.env
      standAt apos.atName
      let (f, first) ← holding [ov] (getMethod ov m pl)
      callWith pos f first (backTo pos (starEach [] X.env)) (backToKw pos (keywordEach [] X.env))) := by rfl) :
    PE X (.Call (.Attribute o m apos) [] [] pos) (tMx C m sp (WE W) ta tNil) := by
  obtain ⟨f, fd, ps, hc, hm, F, b⟩ := c.ex
  refine ⟨fun pins s σ H Q I h => ?_⟩
  refine PySem.W.methodCall_KW (pl := pl) (thn (he.run pins s σ H _ I h) fun u s1 ⟨v, H1, I1, rx, a, dx, fs, ex, ea, l, q⟩ => ?_) ht
  subst ex
  obtain rfl : u = Value.ref a := rx
  refine getmeth_ok I1 ea hc hm l ?_
  exact PySem.W.callWith_K0 (first := [.ref a]) I1.kIn hm.kp (run_fnS (us := [.ref a]) (vs := [.ref a]) F (hr.mono hk) b (passAt tk σ) I1 (.cons rfl .nil) q)
end
/-! ### own exceptions raised -/
/-- __init__ of such: its arguments under these names, in a new dict -/
def sp_inx (C : Addr) (fs : List Str) : Sp := fun xs H Q _ => ∃ (a : Addr) (ys : List V), xs = .ref a :: ys ∧ ys.length = fs.length ∧ H a = some (exo a C none) ∧
  ∀ (d : Addr) (H2 : Hp), H d = none → d ≠ a → H2 a = some (exo a C (some d)) → H2 d = some (exd d (fs.zip ys).reverse) → (∀ b o, b ≠ a → H b = some o → H2 b = some o) → (∀ b, H2 b = none → H b = none) → Q .non H2
def tImp (ta : TA) : TA := fun σ H Q => ∃ Q0 : List V → Hp → Prop, ta σ H Q0 ∧ ∀ vs H1, Q0 vs H1 → Q vs H1
theorem pa_imp {X : Cx} {es : List Expr} {ta : TA} (ha : PA X es ta) : PA X es (tImp ta) := ⟨fun pos pins s σ H Q I ⟨Q0, h, i⟩ => thn (ha.run pos pins s σ H Q0 I h) fun us s1 ⟨vs, H1, I1, r, q⟩ => ⟨vs, H1, I1, r, i vs H1 q⟩⟩
structure Rc (K : PySem.W.Frag) (mg : Str → Option Value) (n : Str) (C : Addr) : Prop where
  g : mg n = some (.ref C)
  o : OexC K C
  x : XfC K C
structure Rk (P : Program) (w : World) (K : PySem.W.Frag) (mg : Str → Option Value) (base : Heap) (n : Str) (C : Addr) (fs : List Str) : Prop where
  rc : Rc K mg n C
  no : ∀ f ∈ fs, PySem.W.findIn K (.ref C) f = some none
  ini : ∃ (fI : Addr) (fd : FuncData) (ps : List Str), PySem.W.findIn K (.ref C) "__init__" = some (some (.ref fI)) ∧ PySem.W.typeIn K (.ref fI) = some (.type "function") ∧ FnOk P w K mg base C8.CX0 1 fI fd ps (sp_inx C fs) ∧ Binds K fd ps []
def tRx (C : Addr) (fs : List Str) (W : WX) (ta : TA) : TS := fun _ σ H => ta σ H fun vs H1 => vs.length = fs.length ∧ ∀ (d : Addr) (H2 : Hp), H1 d = none → H2 d = some (.xd (fs.zip vs).reverse) → Same H1 H2 → W (.ref C) (some d) σ H2
theorem ps_rx {X : Cx} {n : Str} {C : Addr} {fs : List Str} {j : Nat} {e : Expr} {es : List Expr} {ta : TA} {W : WX} {p pos pos2 : Pos} (E : Rk X.prog X.w X.K X.mg X.base n C fs) (hr : Room j X.A) (hj : 2 ≤ j) (hg : Gl X n) (hc : X.calm = true) (tk : Takes X W) (ha : PA X (e :: es) ta) (hf : fs.length < 100 := by decide)
    (hdb : (n == ("__debug__" : Str)) = false := by decide) (he : starEach (e :: es) X.env = (false, eval e X.env) :: starEach es X.env := by rfl) (hpl : (backTo pos (starEach es X.env)).any (·.1) = false := by rfl) :
    PS X (.Raise (some (.Call (.Name n p) (e :: es) [] pos)) none pos2) (tRx C fs W ta) := by
  obtain ⟨fI, fd, ps, i1, i2, F, b⟩ := E.ini
  refine ⟨fun pins s σ H D I h => (ps_raise hc tk (pmk_oex E.rc.o i1 i2 F (hr.mono hj) b .nil pass0 hg E.rc.g (pa_imp ha) hdb he hpl)).run pins s σ H D I ?_⟩
  refine ⟨_, h, fun vs H1 q => ?_⟩
  obtain ⟨hl, q⟩ := q
  refine ⟨by omega, fun a hn => ⟨a, vs ++ [], rfl, by rw [List.append_nil]; exact hl, upd_same, fun d H2 hd nd e1 e2 keep fr => ?_⟩⟩
  rw [List.append_nil] at e2
  rw [upd_ne nd] at hd
  refine ⟨rfl, d, (fs.zip vs).reverse, e1, e2, hd, q d _ hd upd_same fun b o z => ?_⟩
  have nb : b ≠ a := ne_of_none z hn
  rw [upd_ne (ne_of_none z hd), del_ne nb]
  exact keep b o nb (by rw [upd_ne nb]; exact z)
/-! ### try with several clauses that name the error alike -/
def wManyA (K : PySem.W.Frag) (i : Nat) (Wout : WX) (D : Ends) : List (Value × (Addr → Value → Option Addr → TS)) → WX
  | [] => Wout
  | (c, ts) :: r => fun cls d σ H => ∃ b, PySem.W.exmOne K cls c = some b ∧
      (b = true → ∀ a, H a = none → ts a cls d { nx := fun σ' H' => D.nx (σ'.set i none) H', rt := D.rt, bk := fun σ' H' => D.bk (σ'.set i none) H', ct := fun σ' H' => D.ct (σ'.set i none) H' } (σ.set i (some (.ref a))) H) ∧ (b = false → wManyA K i Wout D r cls d σ H)
inductive HdsA (X : Cx) (n : Str) : List ExceptHandler → List (Value × (Addr → Value → Option Addr → TS)) → Prop
  | nil : HdsA X n [] []
  | cons {x : Str} {c : Value} {ts : Addr → Value → Option Addr → TS} {b₀ : Stmt} {suite : List Stmt} {np pos' : Pos} {hds : List ExceptHandler} {l : List (Value × (Addr → Value → Option Addr → TS))} (hc : Names X x c)
      (hsu : ∀ (a : Addr) (oe : Obj) (cls : Value) (d : Option Addr) (pn : List (Addr × Obj)), Zc cls d oe → (∃ vs, oe.data = .fields vs) → PSs (X.suite a ((a, oe) :: pn)) (b₀ :: suite) (ts a cls d)) (r : HdsA X n hds l) :
      HdsA X n (.ExceptHandler (some (.Name x np)) (some n) (b₀ :: suite) pos' :: hds) ((c, ts) :: l)
theorem ps_try_ma {X : Cx} {n : Str} {i : Nat} {body : List Stmt} {h₀ : ExceptHandler} {hds : List ExceptHandler} {l : List (Value × (Addr → Value → Option Addr → TS))} {pos : Pos} {tb : WX → TS} {Wout : WX}
    (hs : X.stack = X.env :: X.outer) (hf : X.env.frame = some X.env.locals) (hN : X.N.Nodup) (hi : X.N[i]? = some n) (hln : X.env.kindOf n = some .local) (tk : Takes X Wout)
    (hb : ∀ (W : WX) (pn : List (Addr × Obj)) (xe : Value → Shared → Prop), Takes (X.tr pn xe) W → PassesOwn (model X.prog X.w) X.A X.env xe → PSs (X.tr pn xe) body (tb W))
    (hh : HdsA X n (h₀ :: hds) l) : PS X (.Try body (h₀ :: hds) [] [] pos) (fun D σ H => tb (wManyA X.K i Wout D l) D σ H) := by
  refine ⟨fun pins s σ H D I h => ?_⟩
  have ok := I.ok
  have hfr : X.A.frames = some (X.env :: X.outer) := by rw [ok.frames, hs]
  have hloc : Loc X.env.scope n := .inl hln
  refine wpAny_Try_except ?_
  refine wpAny_mono ((hb (wManyA X.K i Wout D l) (X.pn ++ pins) (fun e s₁ => wpAny (model X.prog X.w) X.A (noteFrame e X.env) (fun _ s₂ => wpAny (model X.prog X.w) X.A (setFlight e none) (fun _ s₃ =>
    wpAny (model X.prog X.w) X.A (handleBy e X.env (h₀ :: hds)) (SP X pins D) X.xe s₃) X.xe s₂) X.xe s₁) (fun u s' xx => ?_) PassesOwn.looking).run [] s σ H D (I.toTry _) h) (fun f s1 hsp => ?_) (fun e s1 he => he)
  · obtain ⟨a, B, sI, pins', σ', H', cls, d, rfl, J', nb, up, sky, na, os, ag, w⟩ := xx
    have J : Inv X pins σ' H' sI := J'.ofTry ok
    have sky' : Sky B (X.env :: X.outer) a (Zc cls d) X.env.locals s'.heap := by rw [← hs]; exact sky
    show wpAny (model X.prog X.w) X.A (noteFrame (.ref a) X.env) _ _ _
    refine Sky.land Zc.steady hfr hf sky' fun h3 fl3 up3 => ?_
    have J3 : Inv X pins σ' H' { s' with heap := h3 } := J.landed nb fl3.1 (up.trans up3) os ag
    obtain ⟨oe3, vs3, he3, hz3, hd3⟩ := fl3.there
    have notFr : ∀ {h : Heap} {o : Obj} {vs : Array Value}, h.FunFrames B (X.env :: X.outer) → h.get? a = some o → o.data = .fields vs → a ∉ frs (X.env :: X.outer) := fun {h o vs} ff e dd hm => by
      obtain ⟨_, o', e', hnf⟩ := ff.mem hm
      rw [e] at e'; cases e'
      exact hnf _ dd
    have nfr := notFr fl3.2.2.1 he3 hd3
    have nL : a ≠ X.env.locals := fun z => nfr (List.mem_filterMap.mpr ⟨X.env, List.mem_cons_self, by rw [hf, z]⟩)
    have nF : a ∉ X.fs := fun hm => by
      obtain ⟨e, he, q⟩ := List.mem_filterMap.mp hm
      exact nfr (List.mem_filterMap.mpr ⟨e, List.mem_cons_of_mem _ he, q⟩)
    have S3 := J3.suite he3 hd3 na nL nF
    have go : ∀ {hds' : List ExceptHandler} {l' : List (Value × (Addr → Value → Option Addr → TS))}, HdsA X n hds' l' → wManyA X.K i Wout D l' cls d σ' H' →
        wpAny (model X.prog X.w) X.A (handleBy (.ref a) X.env hds') (SP X pins D) X.xe { s' with heap := h3 } := by
      intro hds' l' hk
      induction hk with
      | nil =>
        intro w
        refine wpAny_handleBy_nil ?_
        obtain ⟨k1, k2, k3, oe, vs, T, oT, ts', he, hz, hd, h1, hr⟩ := id fl3
        unfold PySem.passOn
        refine wpAny_bind (wpAny_field he hd h1 ?_)
        rw [if_neg (show ¬ ((Value.ref T == Value.none) = true) from by simp)]
        have fin : wpAny (model X.prog X.w) X.A (setFlight (.ref a) X.env.frame) (fun _ s4 => wpAny (model X.prog X.w) X.A (throw (.ref a) : Sem Flow) (SP X pins D) X.xe s4) X.xe { s' with heap := h3 } := by
          rw [hf]
          refine HandSPX.setFlight_upZ fl3 fun h4 hh4 up4 => wpAny_throw (tk _ _ ?_)
          exact ⟨a, B, sI, pins, σ', H', cls, d, rfl, J, nb, (up.trans up3).trans up4, .inr (.inr (by rw [hs]; exact hh4)), na, os, ag, w⟩
        first
          | exact wpAny_bind (wpAny_pure (wpAny_bind fin))
          | exact wpAny_bind fin
      | @cons x c ts b₀ suite np pos' hds2 l2 hc hsu r ih =>
        intro w
        obtain ⟨b, hb1, hyes, hno⟩ := w
        refine wpAny_handleBy_cons (codeAny_handlers_test ?_) (by intro q; cases q)
        have LT : PySem.W.Looks (model X.prog X.w) h3 (typeOf (.ref a)) cls := fun A Q E s k q => wpAny_typeOf_ref (k _ _ he3) (by rw [hz3.1]; exact q)
        have LM := PySem.W.exm_one (M := model X.prog X.w) (J3.kIn) LT hb1
        have test : ∀ {Q : Value → Shared → Prop} {E : Value → Shared → Prop}, Q c { s' with heap := h3 } → wpAny (model X.prog X.w) (X.A.mark (some (.ref a))) (eval (.Name x np) X.env) Q E { s' with heap := h3 } := fun {Q E} q => by
          obtain ⟨hg, hdbg, hm | ⟨hm, hv, hnn⟩⟩ := hc
          · exact ld_glob (X := X.suite a ((a, oe3) :: (X.pn ++ pins))) S3 hg hm q hdbg
          · exact ld_blt (X := X.suite a ((a, oe3) :: (X.pn ++ pins))) S3 hg hm hv q hnn hdbg
        refine test (LM.here ?_)
        cases b with
        | true =>
          refine codeAny_handlers_suite_as ?_
          refine HandSPX.lands_againZ fl3 fun h4 fl4 up4 => ?_
          have J4 : Inv X pins σ' H' { s' with heap := h4 } := J.landed nb fl4.1 ((up.trans up3).trans up4) os ag
          obtain ⟨oe4, vs4, he4, hz4, hd4⟩ := fl4.there
          have S4 := J4.suite he4 hd4 na nL nF
          refine store_ok (X := X.suite a ((a, oe4) :: (X.pn ++ pins))) (v := .ref a) S4 hN hi hloc rfl (fun s5 S5 => ?_) (.inr hln)
          refine wpAny_mono ((hsu a oe4 cls d (X.pn ++ pins) hz4 ⟨_, hd4⟩).run [] s5 _ H' _ S5 (hyes rfl a na)) (fun f s6 hsp => ?_) (fun _ _ z => False.elim z)
          have end_ : ∀ {σ6 : L2.St} {H6 : Hp} {Q : Shared → Prop}, Inv (X.suite a ((a, oe4) :: (X.pn ++ pins))) [] σ6 H6 s6 → (∀ s7, Inv X pins (σ6.set i none) H6 s7 → Q s7) →
              wpAny (model X.prog X.w) X.A (do bindName X.env n .none; unbindBehindTheSuite X.env n pos') (fun _ s7 => Q s7) X.xe s6 := fun {σ6 H6 Q} S6 hq => gone_ok (S6.unsuite ok) hN hi hln hq
          cases f with
          | next =>
            obtain ⟨σ6, H6, S6, q6⟩ := hsp
            exact end_ S6 fun s7 J7 => ⟨_, _, J7, q6⟩
          | brk =>
            obtain ⟨σ6, H6, S6, q6⟩ := hsp
            exact end_ S6 fun s7 J7 => ⟨_, _, J7, q6⟩
          | cont =>
            obtain ⟨σ6, H6, S6, q6⟩ := hsp
            exact end_ S6 fun s7 J7 => ⟨_, _, J7, q6⟩
          | ret u =>
            obtain ⟨v6, σ6, H6, S6, r6, q6⟩ := hsp
            exact end_ S6 fun s7 J7 => ⟨_, _, _, J7, r6, q6⟩
        | false =>
          show wpAny _ X.A (handleBy (.ref a) X.env hds2) _ _ _
          exact ih (hno rfl)
    exact go hh w
  · cases f with
    | next =>
      obtain ⟨σ', H', J', q⟩ := hsp
      exact wpAny_execs_nil ⟨σ', H', J'.ofTry ok, q⟩
    | brk =>
      obtain ⟨σ', H', J', q⟩ := hsp
      exact ⟨σ', H', J'.ofTry ok, q⟩
    | cont =>
      obtain ⟨σ', H', J', q⟩ := hsp
      exact ⟨σ', H', J'.ofTry ok, q⟩
    | ret u =>
      obtain ⟨v, σ', H', J', r, q⟩ := hsp
      exact ⟨v, σ', H', J'.ofTry ok, r, q⟩
end Vf

set_option maxRecDepth 100000
set_option maxHeartbeats 4000000
namespace Vf
open PySem PySem.Spec PyProof.Rows L2 SX
/-! ### == and != by an own __eq__, either answer -/
structure OwnC (K : PySem.W.Frag) (C f : Addr) : Prop where
  cls : ∃ (nm q : Str) (N : Addr) (bs : List Value) (hdct : Bool) (sn : List Str) (sub : List Value) (ab : Bool) (col : Option Bool) (dd : Option Addr) (k0 k1 k2 k3 k5 : Option Value) (newId : String),
    K.lookup C = some (excClassObj nm q C N bs [.type "object"] hdct sn sub ab col dd k0 k1 k2 k3 k5 newId) ∧ PySem.W.nsOkIn K N = true ∧ PySem.W.nsIn K N "__eq__" = some (some (.ref f)) ∧ PySem.W.nsIn K N "__ne__" = some none
  hs : PySem.W.findIn K (.ref C) "__eq__" = some (some (.ref f))
  hf : PySem.W.isFn K (.ref f) = true
def spEqI (R : Addr → Addr → Bool → Hp → Prop) : Sp := fun vs H Q _ => ∃ a b r, vs = [.ref a, .ref b] ∧ R a b r H ∧ ∀ H', Same H H' → Q (.bl r) H'
def rEqI (C : Addr) (n : Bool) (R : Addr → Addr → Bool → Hp → Prop) : R2 := fun x y H Q => ∃ a b r dx dy fs gs, x = .ref a ∧ y = .ref b ∧ H a = some (.ins C dx fs) ∧ H b = some (.ins C dy gs) ∧ R a b r H ∧ ∀ H', Same H H' → Q (.bl (r != n)) H'
theorem ns_some {K : PySem.W.Frag} {h : Heap} {N : Addr} {m : Str → Option Value} {n : Str} {v : Value} (X : K.In h) (G : h.Ns N m) (e : PySem.W.nsIn K N n = some (some v)) : m n = some v := by
  obtain ⟨o, es, ep, ho, hd, _, hf⟩ := G
  unfold PySem.W.nsIn at e
  split at e
  · rename_i c d es' n' sl q
    have := X _ _ q
    rw [ho] at this
    cases this
    cases hd
    split at e
    · rename_i en he
      cases e
      rw [← hf]
      unfold nsFind findBy
      rw [← Array.find?_toList, he]
      rfl
    · split at e <;> cases e
  · cases e
section
variable {X : Cx} {C f : Addr} {fd : FuncData} {ps : List Str} {R : Addr → Addr → Bool → Hp → Prop} {k j : Nat}
theorem op_eqI (O : OwnC X.K C f) (F : FnOk X.prog X.w X.K X.mg X.base C8.CX0 k f fd ps (spEqI R)) (hb : Binds X.K fd ps []) (hr : Room j X.A) (hj : k ≤ j) : OpR X (compareOp .Eq) (rEqI C false R) := by
  intro pins s σ H x y v u Q I rx ry hq
  obtain ⟨a, b, r, dx, dy, fs, gs, rfl, rfl, ha, hb', hr', q⟩ := hq
  cases rx
  cases ry
  show wpAny (model X.prog X.w) X.A (richCompare .Eq (.ref a) (.ref b)) (EP X pins σ Q) X.xe s
  obtain ⟨mA, J, _⟩ := ins_get I.hok ha
  obtain ⟨mB, J', _⟩ := ins_get I.hok hb'
  obtain ⟨od, J, _⟩ := J.look
  obtain ⟨od', J', _⟩ := J'.look
  obtain ⟨m, hF⟩ := I.fr
  refine PySem.W.cmp_K (op := .Eq) (tb := .ref C) hr.units0 hF I.ok.mod.kin J J'.type (by simp [PySem.W.notFirst]) O.hs O.hf ?_
  refine thn (run_fn (us := [.ref a, .ref b]) (vs := [.ref a, .ref b]) (Q := fun v H' => v = .bl r ∧ Same H H') F (hr.mono hj) hb .nil pass0 I (.cons rfl (.cons rfl .nil)) ⟨a, b, r, rfl, hr', fun H' e => ⟨rfl, e⟩⟩) fun z s1 hz => ?_
  obtain ⟨v, H', I1, rv, e, sm⟩ := hz
  subst e
  obtain rfl : z = Value.bool r := rv
  refine ⟨.bl (r != false), H', I1, ?_, q H' sm⟩
  show Value.bool r = Value.bool (r != false)
  cases r <;> rfl
theorem op_neI (O : OwnC X.K C f) (F : FnOk X.prog X.w X.K X.mg X.base C8.CX0 k f fd ps (spEqI R)) (hb : Binds X.K fd ps []) (hr : Room j X.A) (hj : k + 1 ≤ j) : OpR X (compareOp .NotEq) (rEqI C true R) := by
  intro pins s σ H x y v u Q I rx ry hq
  obtain ⟨a, b, r, dx, dy, fs, gs, rfl, rfl, ha, hb', hr', q⟩ := hq
  cases rx
  cases ry
  obtain ⟨mA, J, _⟩ := ins_get I.hok ha
  obtain ⟨mB, J', _⟩ := ins_get I.hok hb'
  obtain ⟨nm, qn, N, bs, hdct, sn, sub, ab, col, dd, k0, k1, k2, k3, k5, newId, lC, nk, ne, nn⟩ := O.cls
  have KX := I.kIn
  have G : s.heap.Ns N (s.heap.nsMap N) := .of_isNs (PySem.W.isNs_of_in KX nk)
  have tf : PySem.W.typeIn X.K (.ref f) = some (.type "function") := beq_iff_eq.mp O.hf
  obtain ⟨of, lf, hcf⟩ := Option.map_eq_some_iff.mp (show (X.K.lookup f).map (·.cls) = some (.type "function") from tf)
  have W : s.heap.OwnEqNoNe a C f "object" [.type "object"] :=
    ⟨_, of, nm, qn, N, bs, hdct, sn, sub, ab, col, dd, k0, k1, k2, k3, k5, newId, _, _, J.obj, rfl, KX _ _ lC, G, ns_some KX G ne, KX _ _ lf, hcf, PySem.F.cmp_object.mro, PySem.F.cmp_object.eq.lookup, PySem.W.ns_none_of KX G nn⟩
  have e0 : Env0 X.prog X.w X.K X.mg X.base X.A.in1 X.stack s H := by
    have e := I.env0
    exact ⟨e.frames, e.mod, e.bs, e.bsz, e.funs, e.frf, e.hok, e.bare⟩
  have hsp : spEqI R [.ref a, .ref b] H (fun v H' => v = .bl r ∧ Same H H') (fun _ _ _ => False) := ⟨a, b, r, rfl, hr', fun H' e => ⟨rfl, e⟩⟩
  have hl := F.len _ _ _ _ hsp
  have hu : X.A.units + 1 < cLine := (hr.mono hj).in1.units0
  have run := F.run X.A.in1 X.stack s H ⟨[.ref a, .ref b], []⟩ [.ref a, .ref b] [.ref a, .ref b] _ (fun _ _ _ => False) ((hr.mono hj).in1) e0 (by
    have := hb s [.ref a, .ref b] KX (by simpa using hl)
    simpa using this) (.cons rfl (.cons rfl .nil)) hsp
  obtain ⟨hp, g, d, t, os⟩ := s
  refine compareOp_ne_ownEq (prog := X.prog) (w := X.w) PySem.F.cmp_object W J'.obj rfl hu (wpAny_call (codeAny_mono run fun z s' hz => ?_))
  cases z with
  | error e => exact pass0 pins σ H _ e s' I hz
  | ok fl =>
    cases fl with
    | ret w =>
      obtain ⟨v, H', I1, rv, ev, sm⟩ := I.after hz
      subst ev
      obtain rfl : w = Value.bool r := rv
      refine ⟨r, rfl, .bl (r != true), H', I1, ?_, q H' sm⟩
      show Value.bool (!r) = Value.bool (r != true)
      cases r <;> rfl
    | next => exact False.elim hz
    | brk => exact False.elim hz
    | cont => exact False.elim hz
/-- one of two rules for an operator -/
theorem op_alt {g : Value → Value → Sem Value} {r1 r2 : R2} (h1 : OpR X g r1) (h2 : OpR X g r2) : OpR X g (fun x y H Q => r1 x y H Q ∨ r2 x y H Q) := by
  intro pins s σ H x y v u Q I rx ry h
  rcases h with h | h
  · exact h1 pins s σ H x y v u Q I rx ry h
  · exact h2 pins s σ H x y v u Q I rx ry h
end
end Vf

set_option maxRecDepth 100000
set_option maxHeartbeats 4000000
namespace Vf
open PySem PySem.Spec PyProof.Rows L2 SX
/-! ### match over texts -/
structure MC (X : Cx) (cs : List MatchCase) (t : V → TS) : Prop where
  run : ∀ (first : Bool) (pins : List (Addr × Obj)) (s : Shared) (σ : L2.St) (H : Hp) (D : Ends) (x : V) (v : Value), Inv X pins σ H s → RelV x v → t x D σ H → wpAny (model X.prog X.w) X.A (matchCases cs X.env v first) (SP X pins D) X.xe s
section
variable {X : Cx}
theorem mc_nil : MC X [] (fun _ => tNext) := ⟨fun _ pins s σ H D x v I _ h => by
  rw [arm_matchCases_nil]
  exact wpAny_pure ⟨σ, H, I, h⟩⟩
def tMv (s : Str) (tb : TS) (tr : V → TS) : V → TS := fun x D σ H => ∃ y : Str, x = .str y ∧ if decide (y = s) = true then tb D σ H else tr x D σ H
theorem mc_val {s : Str} {j : Nat} {p1 p2 : Pos} {body : List Stmt} {rest : List MatchCase} {tb : TS} {tr : V → TS} (hb : PSs X body tb) (hr : MC X rest tr) :
    MC X (⟨.MatchValue (.Constant (.str s) j p1) p2, none, body⟩ :: rest) (tMv s tb tr) := by
  refine ⟨fun first pins sh σ H D x v I rx h => ?_⟩
  obtain ⟨y, rfl, h⟩ := h
  rw [arm_matchCases_cons]
  refine wpAny_bind (wpAny_holding ?_)
  rw [arm_matchPattern_MatchValue]
  refine wpAny_bind (thn (pe_str.run pins sh σ H (fun z H1 => z = .str s ∧ H1 = H) I ⟨rfl, rfl⟩) fun u s1 ⟨z, H1, I1, rz, e1, e2⟩ => ?_)
  subst e1
  subst e2
  refine wpAny_bind (wpAny_standAt ?_)
  refine wpAny_bind (thn (op_eq pins s1 σ H1 (.str y) (.str s) v u (fun z H2 => z = .bl (decide (y = s)) ∧ H2 = H1) I1 rx rz ⟨rfl, by rw [show decide (V.str y = V.str s) = decide (y = s) from decide_eq_decide.mpr ⟨fun z => V.str.inj z, fun z => by rw [z]⟩]; exact ⟨rfl, rfl⟩⟩) fun b s2 ⟨z, H2, I2, rb, e1, e2⟩ => ?_)
  subst e1
  subst e2
  obtain rfl : b = Value.bool (decide (y = s)) := rb
  refine wpAny_bind (wpAny_truthy_bool ?_)
  by_cases e : y = s
  · rw [decide_eq_true e] at h ⊢
    rw [if_pos rfl] at h ⊢
    refine wpAny_pure ?_
    refine wpAny_bind (wpAny_holding ?_)
    first
      | (show wpAny _ _ (assignInOrder [] []) _ _ _; unfold assignInOrder)
      | skip
    refine wpAny_pure ?_
    refine wpAny_bind (wpAny_pure ?_)
    show wpAny _ _ (execs body X.env) _ _ _
    exact hb.run pins s2 σ H2 D I2 h
  · rw [decide_eq_false e] at h ⊢
    rw [if_neg Bool.false_ne_true] at h ⊢
    refine wpAny_pure ?_
    exact hr.run false pins s2 σ H2 D _ v I2 rx h
/-- case _ -/
theorem mc_any {p : Pos} {body : List Stmt} {rest : List MatchCase} {tb : TS} (hb : PSs X body tb) : MC X (⟨.MatchAs none none p, none, body⟩ :: rest) (fun _ => tb) := by
  refine ⟨fun first pins sh σ H D x v I rx h => ?_⟩
  rw [arm_matchCases_cons]
  refine wpAny_bind (wpAny_holding ?_)
  rw [arm_matchPattern_MatchAs]
  refine wpAny_pure ?_
  refine wpAny_bind (wpAny_holding ?_)
  first
    | (show wpAny _ _ (assignInOrder [] []) _ _ _; unfold assignInOrder)
    | skip
  refine wpAny_pure ?_
  refine wpAny_bind (wpAny_pure ?_)
  show wpAny _ _ (execs body X.env) _ _ _
  exact hb.run pins sh σ H D I h
/-- a match statement -/
def tMatch (te : TE) (ts : V → TS) : TS := fun D σ H => te σ H fun x H1 => ts x D σ H1
theorem ps_match {e : Expr} {cs : List MatchCase} {pos : Pos} {te : TE} {ts : V → TS} (he : PE X e te) (hc : MC X cs ts) : PS X (.Match e cs pos) (tMatch te ts) := by
  refine ⟨fun pins s σ H D I h => ?_⟩
  rw [arm_exec_Match]
  refine wpAny_bind (wpAny_standAt ?_)
  refine wpAny_bind (thn (he.run pins s σ H _ I h) fun v s1 ⟨x, H1, I1, rx, q⟩ => ?_)
  exact hc.run true pins s1 σ H1 D x v I1 rx q
end
end Vf

set_option maxRecDepth 100000
set_option maxHeartbeats 4000000
namespace Vf
open PySem PySem.Spec PyProof.Rows L2 SX
/-! ### a def called at one known place of the stack (its guards are known there) -/
def noE : XK := fun _ _ _ => False
def RunAt (P : Program) (w : World) (K : PySem.W.Frag) (mg : Str → Option Value) (base : Heap) (A : Around) (f : Addr) (fd : FuncData) (ps : List Str) (sp : Sp) : Prop :=
  ∀ (out : List Env) (s : Shared) (H : Hp) (g : Args) (us : List Value) (vs : List V) (Q : VK), Env0 P w K mg base A out s H →
    BindsTo s fd g (ps.zip us) → Vals vs us → sp vs H Q noE → codeAny (model P w) A (.call (.ref f) g) (CR C8.CX0 out P w H s Q noE) s
section
variable {P : Program} {w : World} {K : PySem.W.Frag} {mg : Str → Option Value} {base : Heap}
theorem keeps_of {A : Around} {out : List Env} {s : Shared} {H : Hp} (e : Env0 P w K mg base A out s H) {b : Addr} {o : Obj} (h : base.get? b = some o) : s.heap.get? b = some o := (e.bs b o h).1
theorem runAt_of {q : Str} {st : Stmt} {f : Addr} {fd : FuncData} {N ps : List Str} {k : Nat} {A : Around} {sp : Sp} (F : C8.Fun K x q st f fd)
    (S : FnScope N ps (C8.fnScope st)) (len : ∀ vs H Q E, sp vs H Q E → vs.length = ps.length) (hr : Room (k + 1) A)
    (hb : ∀ (c : Value) (out : List Env) (s : Shared) (H : Hp) (vs : List V) (Q : VK), sp vs H Q noE →
      ∃ t, PSs (cxOf C8.CX0 P w K mg base N q (C8.fnScope st) f c A out s H noE).nox (C8.fnBody st) t ∧ t { nx := fun _ h => Q .non h, rt := Q } (start N vs) H) :
    RunAt P w K mg base A f fd ps sp := by
  obtain ⟨oc, od, dV, kV, dc, pm, an, c, ct, sl, rfl, lk, hc⟩ := F.ex
  intro out s H g us vs Q e0 hbind r hsp
  have hn := len _ _ _ _ hsp
  have KX : K.In s.heap := e0.mod.kin.keeps fun _ _ z => keeps_of e0 z
  have lim := e0.mod.nolimit.keeps (h' := s.heap) fun _ _ z => keeps_of e0 z
  refine codeAny_call_function hr.depth (KX _ _ lk) rfl S.co S.gen rfl (PySem.W.codeRec_of KX hc) (hbind _ _ _ _ ?_)
  refine wpAny_newFunctionEnv_cells S.kind (fun y hy => ?_) fun env he s1 x1 => ?_
  · rcases S.par y.1 (List.of_mem_zip hy).1 with z | z
    · exact Or.inl z
    · exact Or.inr ⟨z, PySem.W.cellsFrom_some _ _ _ (Or.inl z)⟩
  · subst he
    refine ⟨lim.keeps x1.toInCall.keep, codeAny_func ?_⟩
    obtain ⟨t, ht, hq⟩ := hb c out s H vs Q hsp
    refine wpAny_mono (ht.nox.run [] s1 (start N vs) H _ (inv_start S hr.hd e0 hn r x1) hq) (fun fl s' hs => ?_) (fun _ _ hs => hs)
    rcases fl with u | _ | _ | _
    all_goals first
      | exact (by obtain ⟨v, σ', H', J, rv, z⟩ := hs; exact ⟨v, H', J.os, J.bare, J.base, J.hok, rv, z⟩)
      | exact (by obtain ⟨σ', H', J, z⟩ := hs; exact ⟨V.non, H', J.os, J.bare, J.base, J.hok, rfl, z⟩)
      | exact (by obtain ⟨_, _, _, z⟩ := hs; exact z.elim)
end
/-- a tracked script list, or one of the written part -/
def scrH (a : Addr) (o : Obj) (xs : List V) : Hp := fun b => if b = a then some (.frz o (.lst xs)) else none
section
variable {P : Program} {w : World} {K : PySem.W.Frag} {mg mb : Str → Option Value} {fa a : Addr} {fd : FuncData} {x : Str} {sp : Sp} {s : Shared} {ws : List Value} {ns : List Int}
def LawEnd (s : Shared) (r : Result) (z : Shared) : Prop := r = .ok (.ret (.bool true)) ∧ OldK s.heap z.heap ∧ z.os = s.os ∧ AllBare z.gens
theorem law_core (KX : K.In s.heap) (hn : s.heap.Ns mainGlobals mg) (hb : s.heap.Ns builtinsNs mb) (hbb : ∀ y : Str, y ≠ "__name__" → mb y = bootBuiltins y) (hl : s.heap.NoLimit) (hg : s.gens = #[])
    (ha : s.heap.get? a = some { cls := .type "list", data := .seq ws.toArray }) (F : ∀ b : Heap, K.In b → b.Ns mainGlobals mg → RunAt P w K mg b callerA fa fd [x] sp)
    (bind : ∀ (z : Shared) (u : Value), BindsTo z fd ⟨[u], []⟩ [(x, u)]) (H : Hp) (hO : Only H) (hS : sp [.ref a] H (fun v _ => v = .bl true) noE) (ok : HOk P w H s.heap)
    (hA : ∀ b, H b ≠ none → b = a) (hK : H a ≠ none → K.lookup a = none) : codeAny (model P w) callerA (.call (.ref fa) ⟨[.ref a], []⟩) (LawEnd s) s := by
  have at_a : ∀ {b : Addr} {u : HO}, H b = some u → b = a := fun {b u} z => hA b fun n => nomatch n.symm.trans z
  have dictN : ∀ {b : Addr} {o : Obj} {es : Array DictEntry} {ep : Nat}, s.heap.get? b = some o → o.data = .dict es ep → H b = none := fun {b o es ep} e d =>
    match q : H b with
    | none => rfl
    | some u => by
      cases at_a q
      cases ha.symm.trans e
      exact nomatch d
  have nsN : ∀ {b : Addr} {m : Str → Option Value}, s.heap.Ns b m → (hidT s.heap H).Ns b m := fun {b m} n => by
    obtain ⟨o, es, ep, e, d, r⟩ := n
    exact ⟨o, es, ep, hidT_get e (dictN e d), d, r⟩
  have kin : K.In (hidT s.heap H) := fun b o e => hidT_get (KX b o e) (match q : H b with
    | none => rfl
    | some u => by
      cases at_a q
      cases (hK fun n => nomatch n.symm.trans q).symm.trans e)
  have lim : (hidT s.heap H).NoLimit := by
    obtain ⟨mc, l1, l2⟩ := hl
    exact ⟨mc, nsN l1, l2⟩
  have e0 : Env0 P w K mg (hidT s.heap H) callerA [] s H := ⟨rfl, ⟨kin, nsN hn, ⟨mb, nsN hb, hbb⟩, lim⟩, fun _ _ e => of_hidT e, Nat.le_of_eq (hidT_size _ _), trivial, fun b z => absurd (show b ∈ ([] : List Addr) from z) List.not_mem_nil, ok, .of_eq hg⟩
  refine codeAny_mono (F _ kin (nsN hn) [] s H ⟨[.ref a], []⟩ [.ref a] [.ref a] _ e0 (bind s (.ref a)) (.cons rfl .nil) hS) fun r z h => ?_
  match r, h with
  | .error e, h => exact (show False from h).elim
  | .ok .next, h => exact (show False from h).elim
  | .ok .brk, h => exact (show False from h).elim
  | .ok .cont, h => exact (show False from h).elim
  | .ok (.ret u), h =>
    obtain ⟨v, H', os, bare, un, ok', rv, rfl⟩ := h
    cases (show u = Value.bool true from rv)
    refine ⟨rfl, OldK.of_keep fun b o e => ?_, os, bare⟩
    match q : H b with
    | none => exact un.keep b o e q (fun m => absurd (show b ∈ ([] : List Addr) from m) List.not_mem_nil) List.not_mem_nil
    | some u =>
      rcases hO b with n | ⟨ob, xs, n⟩
      · exact nomatch n.symm.trans q
      · have g1 := (ok b _ n).1
        have g2 := (ok' b _ (un.frzs b ob _ n)).1
        cases e.symm.trans g1
        exact g2
theorem law_callG (KX : K.In s.heap) (hn : s.heap.Ns mainGlobals mg) (hb : s.heap.Ns builtinsNs mb) (hbb : ∀ y : Str, y ≠ "__name__" → mb y = bootBuiltins y) (hl : s.heap.NoLimit) (hg : s.gens = #[])
    (ha : s.heap.get? a = some { cls := .type "list", data := .seq ws.toArray }) (hi : IntsAre ws ns) (hz : ns.length ≤ sizeLine) (F : ∀ b : Heap, K.In b → b.Ns mainGlobals mg → RunAt P w K mg b callerA fa fd [x] sp)
    (bind : ∀ (z : Shared) (u : Value), BindsTo z fd ⟨[u], []⟩ [(x, u)]) (hS : ∀ H : Hp, Only H → SqL K H a (ns.map V.int) → sp [.ref a] H (fun v _ => v = .bl true) noE) :
    codeAny (model P w) callerA (.call (.ref fa) ⟨[.ref a], []⟩) (LawEnd s) s := by
  have rv := vals_ints hi
  match hk : K.lookup a with
  | some o =>
    cases ha.symm.trans (KX a o hk)
    have so : Only (fun _ => none) := fun _ => .inl rfl
    exact law_core KX hn hb hbb hl hg ha F bind _ so (hS _ so (.inr ⟨_, ws.toArray, _, hk, rfl, rfl, rfl, by rw [List.size_toArray, hi.length]; exact hz, by simpa using rv⟩)) (fun _ u z => nomatch (show (none : Option HO) = some u from z)) (fun _ z => absurd rfl z) (fun z => absurd rfl z)
  | none =>
    have e1 : scrH a { cls := .type "list", data := .seq ws.toArray } (ns.map V.int) a = some (.frz { cls := .type "list", data := .seq ws.toArray } (.lst (ns.map V.int))) := if_pos rfl
    have e2 : ∀ {b : Addr}, b ≠ a → scrH a { cls := .type "list", data := .seq ws.toArray } (ns.map V.int) b = none := fun n => if_neg n
    have so : Only (scrH a { cls := .type "list", data := .seq ws.toArray } (ns.map V.int)) := fun b => by
      by_cases z : b = a
      · subst z; exact .inr ⟨_, _, e1⟩
      · exact .inl (e2 z)
    refine law_core KX hn hb hbb hl hg ha F bind _ so (hS _ so (.inl (.inr ⟨_, e1⟩))) (fun b u z => ?_) (fun b z => ?_) fun _ => hk
    · by_cases y : b = a
      · subst y
        cases e1.symm.trans z
        exact ⟨ha, by rw [List.length_map]; exact hz, ws, _, rv, ha⟩
      · exact nomatch (e2 y).symm.trans z
    · by_cases y : b = a
      · exact y
      · exact absurd (e2 y) z
end
section
variable {l : PySem.W.OpenLaw} {n : Nat} {q : Program} {loose : List Str} {XP : (Str → Option Value) → Heap → Prop} {YP : World → Heap → Prop} {d : DefRec} {K : Params → PySem.W.Frag} {sp : PySem.W.Frag → Sp} {x : Str}
theorem walk_ofG (hn : l.most = some n) (hz : n ≤ sizeLine) (hd : d.params.defaults = []) (hY : ∀ (w : World) (h : Heap), YP w h → (K w.params).In h)
    (F : ∀ (w : World) (mg : Str → Option Value) (fa : Addr) (h : Heap), (K w.params).In h → h.Ns mainGlobals mg → mg d.name = some (.ref fa) →
      ∃ fd : FuncData, (∀ (z : Shared) (u : Value), BindsTo z fd ⟨[u], []⟩ [(x, u)]) ∧ ∀ b : Heap, (K w.params).In b → b.Ns mainGlobals mg → RunAt l.prog w (K w.params) mg b callerA fa fd [x] (sp (K w.params)))
    (hS : ∀ (K : PySem.W.Frag) (H : Hp) (a : Addr) (ns : List Int), ns.length ≤ n → Only H → SqL K H a (ns.map V.int) → sp K [.ref a] H (fun v _ => v = .bl true) noE) :
    PySem.W.WalkO q loose XP YP l.row.toRowW d [] (fun f vs => PySem.call f vs) := by
  refine Att.attach_call hn hd fun w s0 s1 mg mb fa o pm c dc a vs ns G Y ho ht hc hm hobj hi hlen hg => ?_
  have KX := hY w _ Y
  obtain ⟨fd, hb, hF⟩ := F w mg fa _ KX G.T.g hm
  exact law_callG KX G.T.g G.T.b G.T.builtins G.T.nolimit hg hobj hi (Nat.le_trans hlen hz) hF hb fun H hO hL => hS _ H a ns hlen hO hL
end
/-! ### repr of data -/
def rRepr (K : PySem.W.Frag) : List V → Hp → VK → Prop := fun xs H Q => ∃ (a : Addr) (d : PyData), xs = [.ref a] ∧ Dp K H (.ref a) d ∧ d.showable = true ∧ d.hasDict = false ∧ d.depth ≤ 40 ∧ d.shown.length ≤ sizeLine ∧ Q (.str d.shown) H
theorem call_reprD {X : Cx} (hg : X.A.guards = some []) (hu : X.A.units + 64 < cLine) : CallR X (.builtin "repr") (rRepr X.K) := by
  intro pins s σ H xs us Q I r h
  obtain ⟨a, d, rfl, hd, hs, hn, hp, hl, q⟩ := h
  cases r with
  | @cons _ u _ _ ra rt =>
    cases rt
    obtain rfl : u = Value.ref a := ra
    obtain ⟨as, rd⟩ := Dp.reads I d _ _ hd rfl
    exact repr_of_reads' rd hs (fun z => absurd (hn.symm.trans z) (by decide)) hg (by omega) (fun _ _ e => e) (fun h' u tk k => ⟨.str d.shown, H, I.kept k, ⟨_, rfl⟩, q⟩) hl
end Vf

set_option maxRecDepth 100000
set_option maxHeartbeats 4000000
namespace Vf
open PySem PySem.Spec PyProof.Rows L2 SX
/-! ### an own exception as a value: made, its fields read, its class asked -/
/-- __class__ of an own exception, with or without a dict of its own -/
theorem cls_of_exc {prog : Program} {w : World} {A : Around} {E : Value → Shared → Prop} {s : Shared} {K : PySem.W.Frag} {e C : Addr} {oe : Obj} {od : Option Obj} {Q : Option Value → Shared → Prop} (T : ExcC K C)
    (X : K.In s.heap) (I : PySem.W.InstAt s.heap e oe C od) (q : Q (some (.ref C)) { s with toks := s.toks + 1 }) : wpAny (model prog w) A (getAttr? (.ref e) "__class__") Q E s := by
  have fnd : PySem.W.findObj K C od "__class__" = some (.bind (.builtin "getset_descriptor.__get__") (.builtin "object.__class__")) := by
    obtain ⟨cd, hc, _⟩ := PySem.W.any_some T.hd
    unfold PySem.W.findObj
    simp [hc, T.ha, T.hn, T.ht]
  have own : (Value.builtin "BaseException.__getattribute__" == Value.builtin "object.__getattribute__") = false := by decide +kernel
  obtain ⟨h0, g0, d0, t0, o0⟩ := s
  have j0 := I.type (M := model prog w)
  have j1 := PySem.W.looks_findIn (M := model prog w) X T.hg
  have j2 := PySem.W.looks_findIn (M := model prog w) X T.hk
  have j3 := PySem.W.looks_find (M := model prog w) X I fnd
  have sb : PySem.W.Looks (model prog w) h0 (isInstance (.ref e) (.type "BaseException")) true := j0.andThen (PySem.W.looks_subIn X T.hs)
  unfold getAttr? getAttrBy? getAttrBy
  iterate 1 refine wpAny_bind (wpAny_mkText ?_)
  refine wpAny_bind (wpAny_attempt (wpAny_holding ?_))
  refine wpAny_bind (j0.at (wpAny_bind (j1.at ?_)))
  refine (show wpAny _ _ (if (onTheHeap (Value.ref C) && (Value.builtin "BaseException.__getattribute__" == Value.builtin "object.__getattribute__")) = true then _ else _) _ _ _ from ?_)
  rw [own, Bool.and_false, if_neg Bool.false_ne_true]
  unfold getAttrByItsOwn hookBefore
  refine wpAny_bind ?_
  have hon : onTheHeap (Value.ref C) = true := rfl
  rw [if_pos hon]
  refine j2.at (wpAny_bind (wpAny_attempt (wpAny_holding ?_)))
  unfold callGetattribute
  have hno : ¬ (false && onTheHeap (Value.builtin "BaseException.__getattribute__")) = true := Bool.false_ne_true
  rw [if_neg hno]
  unfold boundAndCalled
  rw [F.excAttr_ValueError.ga.bind (.ref e)]
  refine wpAny_bind (wpAny_pure ?_)
  refine (show wpAny _ _ (call (.builtin "BaseException.__getattribute__") [.ref e, .str "__class__" t0]) _ _ _ from ?_)
  refine (wpAny_call (codeAny_call_builtin F.excAttr_ValueError.ga.plain F.entry_bexc_ga ?_))
  refine @PySem.W.check_slot (model prog w) _ _ ⟨h0, g0, d0, t0 + 1, o0⟩ "BaseException.__getattribute__" "BaseException" "__getattribute__"
    (.ref e) [.str "__class__" t0] [] _ (by decide +kernel) (by decide +kernel) sb (F.args_bexc_ga (.ref e) (.str "__class__" t0)) ?_
  unfold Builtin.«object.__getattribute__»
  refine wpAny_bind (wpAny_of_eq (a := ((Value.ref e : Value), [Value.str "__class__" t0])) (by first | rfl | (simp only [slotArgs]; rfl)) ?_)
  refine wpAny_bind (wpAny_pure (wpAny_bind (j0.at (wpAny_bind (j3.at ?_)))))
  refine (show wpAny _ _ (holding [Value.builtin "object.__class__"] (call (.builtin "getset_descriptor.__get__") [.builtin "object.__class__", .ref e, .ref C]) >>= ret) _ _ _ from ?_)
  refine wpAny_bind (wpAny_holding (wpAny_call (PySem.W.class_get (s := ⟨h0, g0, d0, t0 + 1, o0⟩) X I T.hm ?_)))
  refine wpAny_pure ?_
  refine (show wpAny _ _ (handedOut (.ref C)) _ _ _ from ?_)
  rw [PySem.W.handedOut_of (v := .ref C) rfl]
  first
    | exact wpAny_pure (wpAny_pure q)
    | exact wpAny_pure q
theorem kitx_exo {K : PySem.W.Frag} {e C : Addr} {oe : Obj} {od : Option Obj} (T : ExcC K C) : PySem.W.KitX K (.ref e) (.ref C) (fun h => PySem.W.InstAt h e oe C od) := by
  have Z : PySem.W.KitX K (.ref e) (.ref C) (fun h => PySem.W.InstAt h e oe C none) := PySem.W.handS_kitx_exc T.hg T.hk T.hs T.hd T.ha T.hn T.ht T.hm
  obtain ⟨cd, hc, _⟩ := PySem.W.any_some T.hd
  exact { ty := fun _ _ _ I => I.type
          it := fun M h X I A Q E s k q => by
            unfold PySem.W.clsIn at hc
            split at hc
            · rename_i c1 d1 cd1 sl1 ho
              unfold isType loadHead
              exact wpAny_bind (wpAny_loadPart (k _ _ (X _ _ ho)) (wpAny_pure q))
            · cases hc
          ne := fun h tp dd its n sl X htp => Bool.eq_false_iff.mpr fun z => by
            have ez : C = tp := Value.ref.inj (beq_iff_eq.mp z)
            subst ez
            unfold PySem.W.clsIn at hc
            split at hc
            · rename_i c1 d1 cd1 sl1 ho
              exact nomatch (X _ _ ho).symm.trans htp
            · cases hc
          ca := fun X I k => cls_of_exc T X I k }
/-- an own exception of the class at C, with these fields, at a (n: none as yet) -/
def ExAt (H : Hp) (a C : Addr) (fs : List (Str × V)) : Prop := (fs = [] ∧ H a = some (exo a C none)) ∨ ∃ d, H a = some (exo a C (some d)) ∧ H d = some (exd d fs)
theorem inst_of {P : Program} {w : World} {H : Hp} {h : Heap} {a C : Addr} {fs : List (Str × V)} (ok : HOk P w H h) (e : ExAt H a C fs) : ∃ (oe : Obj) (od : Option Obj), PySem.W.InstAt h a oe C od := by
  rcases e with ⟨_, e⟩ | ⟨d, e1, e2⟩
  · obtain ⟨t, g⟩ := exo_at ok e
    exact ⟨_, none, ⟨g, rfl, rfl, trivial⟩⟩
  · obtain ⟨t, g⟩ := exo_at ok e1
    obtain ⟨mA, ⟨o, es, ep, g2, _⟩, _⟩ := exd_at ok e2
    exact ⟨_, some o, ⟨g, rfl, rfl, g2⟩⟩
def rIsX (K : PySem.W.Frag) : List V → Hp → VK → Prop := fun xs H Q => ∃ (a C : Addr) (fs : List (Str × V)) (c : V) (u : Value) (b : Bool), xs = [.ref a, c] ∧ ExAt H a C fs ∧ ExcC K C ∧ ClsV c u ∧ PySem.W.kitOne K (.ref C) u = some b ∧ Q (.bl b) H
theorem call_isX {X : Cx} : CallR X (.builtin "isinstance") (rIsX X.K) := by
  intro pins s σ H xs us Q I r h
  obtain ⟨a, C, fs, c, u, b, rfl, ex, T, k, e, q⟩ := h
  obtain ⟨u1, u2, rfl, r1, r2⟩ := vals2 r
  cases k.eq r2
  obtain rfl : u1 = Value.ref a := r1
  obtain ⟨oe, od, J⟩ := inst_of I.hok ex
  exact PySem.W.kia_one (kitx_exo T) I.kIn J e (fun z => nomatch z) fun tk => ⟨.bl b, H, I.tok tk, rfl, q⟩
/-- e.f of such an exception -/
def tXa (K : PySem.W.Frag) (f : Str) (te : TE) : TE := fun σ H Q => te σ H fun x H1 => ∃ (a C : Addr) (fs : List (Str × V)) (v : V), x = .ref a ∧ XfC K C ∧ PySem.W.findIn K (.ref C) f = some none ∧ ExAt H1 a C fs ∧ fs.lookup f = some v ∧ Q v H1
theorem pe_xa {X : Cx} {e : Expr} {te : TE} {pos : Pos} {f : Str} (he : PE X e te) (hb : attributeBase e f X.env (eval e X.env) = eval e X.env := by rfl) : PE X (.Attribute e f pos) (tXa X.K f te) := by
  refine ⟨fun pins s σ H Q I h => attr_of hb (thn (he.run pins s σ H _ I h) fun u s1 ⟨x, H1, I1, rx, a, C, fs, v, ex, T, hno, ea, l, q⟩ => ?_)⟩
  subst ex
  obtain rfl : u = Value.ref a := rx
  rcases ea with ⟨z, _⟩ | ⟨d, e1, e2⟩
  · subst z; cases l
  obtain ⟨t, g⟩ := exo_at I1.hok e1
  obtain ⟨mA, hns, hr⟩ := exd_at I1.hok e2
  obtain ⟨od, ho, hl⟩ := lookIn_ns hns
  obtain ⟨y, hy, ry⟩ := RelO.some_of (v := v) (o := mA f) (by rw [← l]; exact hr f)
  exact HandSPX.exc_get I1.kIn ⟨g, rfl, rfl, ho⟩ T.ga T.gg T.exC (PySem.W.findObj_own T.hdC hno rfl (by rw [hl, hy])) (handed_of ry) ⟨v, H1, I1.tok _, ry, q⟩
/-- C(e, ..), C's own __init__ keeping sp: the new exception stays -/
def tMkx (R : List V → Hp → VK → Prop) (ta : TA) : TE := fun σ H Q => ta σ H fun vs H1 => R vs H1 Q
theorem pe_mkx {X : Cx} {R : List V → Hp → VK → Prop} {x : Str} {C fI : Addr} {k : Nat} {fd : FuncData} {ps : List Str} {sp : Sp} {e : Expr} {es : List Expr} {ta : TA} {p pos : Pos} (T : OexC X.K C) (iC : PySem.W.findIn X.K (.ref C) "__init__" = some (some (.ref fI)))
    (tI : PySem.W.typeIn X.K (.ref fI) = some (.type "function")) (F1 : FnOk X.prog X.w X.K X.mg X.base C8.CX0 k fI fd ps sp) (hr : Room (k + 1) X.A) (hb : Binds X.K fd ps []) (hg : Gl X x) (hm : X.mg x = some (.ref C)) (ha : PA X (e :: es) ta)
    (hR : ∀ vs H1 Q, R vs H1 Q → vs.length ≤ 1000 ∧ ∀ a, H1 a = none → sp (.ref a :: vs) (upd H1 a (exo a C none)) (fun v H2 => v = .non ∧ Q (.ref a) H2) noE)
    (hdb : (x == ("__debug__" : Str)) = false := by decide) (he : starEach (e :: es) X.env = (false, eval e X.env) :: starEach es X.env := by rfl) (hpl : (backTo pos (starEach es X.env)).any (·.1) = false := by rfl) :
    PE X (.Call (.Name x p) (e :: es) [] pos) (tMkx R ta) := by
  refine ⟨fun pins s σ H Q I h => ?_⟩
  obtain ⟨nm, q, N, bs, bm, sn, sub, ab, col, dd, k0, k1, k2, k3, k5, hC, hbm⟩ := T.cls
  refine wpAny_Call_Name_kw (ld_glob I hg hm ?_ hdb)
  refine PySem.W.callWith_K (h₀ := X.base) I.ok.mod.kin T.kC (thn (ha.run pos pins s σ H _ I h) fun us s1 ⟨vs, H1, I1, r1, q0⟩ => ⟨I1.kIn, ?_⟩) he hpl
  obtain ⟨hz, q1⟩ := hR _ _ _ q0
  refine (show wpAny _ _ (call (.ref C) us) _ _ _ from ?_)
  obtain ⟨hp, g, dr, tk, os⟩ := s1
  have top : hp.objs.size ≤ hp.objs.size + 1 := Nat.le_succ _
  have hn : H1 (hp.objs.size + 1) = none := I1.hok.fresh top
  have grow : ∀ b o, hp.get? b = some o → ((hp.push (PySem.W.kdv_tup us)).push (PySem.HandSPX.excO C hp.objs.size)).get? b = some o := fun b o z => Heap.get?_push_of_some _ (Heap.get?_push_of_some _ z)
  have I2 := I1.laid (t' := tk) (a := hp.objs.size + 1) (o := exo (hp.objs.size + 1) C none) (h' := (hp.push (PySem.W.kdv_tup us)).push (PySem.HandSPX.excO C hp.objs.size)) grow top (exo_ok (t1 := hp.objs.size) (by heap_get))
  have r2 : Vals (V.ref (hp.objs.size + 1) :: vs) (Value.ref (hp.objs.size + 1) :: us) := .cons rfl r1
  have hq := q1 (hp.objs.size + 1) hn
  have hl : (Value.ref (hp.objs.size + 1) :: us).length = ps.length := r2.length.symm.trans (F1.len _ _ _ _ hq)
  have hus : us.length ≤ sizeLine := Nat.le_trans (Nat.le_of_eq (Paired.length r1).symm) (Nat.le_trans hz (by rw [sizeLine_eq]; decide))
  have bd := hb ⟨(hp.push (PySem.W.kdv_tup us)).push (PySem.HandSPX.excO C hp.objs.size), g, dr, tk, os⟩ (Value.ref (hp.objs.size + 1) :: us) I2.kIn (by rw [List.append_nil]; exact hl)
  rw [List.append_nil] at bd
  refine wpAny_call (PySem.HandSPX.call_own F.excBase_ValueError (fun Y => PySem.HandSPX.refsVE_contains Y bm hbm) (I1.kIn _ _ hC) (PySem.W.looks_findIn I1.kIn iC) (fun self => PySem.W.bind_fn I1.kIn self tI) hus ?_)
  refine codeAny_mono (F1.run _ X.stack _ _ ⟨Value.ref (hp.objs.size + 1) :: us, []⟩ (Value.ref (hp.objs.size + 1) :: us) _ _ noE (hr.make C us []) (I2.env0.make C us []) bd r2 hq) fun r s' z => ?_
  match r, z with
  | .error _, z => exact (show False from z).elim
  | .ok .next, z => exact (show False from z).elim
  | .ok .brk, z => exact (show False from z).elim
  | .ok .cont, z => exact (show False from z).elim
  | .ok (.ret u), z =>
    obtain ⟨v, H2, I3, rv, ev, q2⟩ := I2.after z
    subst ev
    exact ⟨rv, .ref (hp.objs.size + 1), H2, I3, rfl, q2⟩
/-- C(), a class without own __init__ -/
theorem pe_mkx0 {X : Cx} {C : Addr} {x : Str} {p pos : Pos} (T : OexC X.K C) (q : PySem.W.excIn X.K C [.type "ValueError", .type "Exception", .type "BaseException", .type "object"] "ValueError.__new__" = true) (gC : X.mg x = some (.ref C)) (hg : Gl X x)
    (hdb : (x == ("__debug__" : Str)) = false := by decide) : PE X (.Call (.Name x p) [] [] pos) (fun σ H Q => ∀ a, H a = none → Q (.ref a) (upd H a (exo a C none))) := by
  refine ⟨fun pins s σ H Q I h => ?_⟩
  refine wpAny_Call_Name_kw (ld_glob I hg gC ?_ hdb)
  refine PySem.W.callWith_K0 I.kIn T.kC ?_
  obtain ⟨bm, N, nm, qn, bs, hdct, sn, sub, ab, col, dd, k0, k1, k2, k3, k5, mN, hC, hN, hni, OT⟩ := exc_obj I.kIn q
  refine wpAny_call_exc_subT F.excBase_ValueError OT hC hN hni (fun h' a hm => ?_) (Nat.zero_le _)
  have hn : H a = none := I.hok.gone hm.new
  obtain ⟨t, ht, _, _⟩ := hm.there
  exact ⟨.ref a, upd H a (exo a C none), I.laidN hm.keeps hm.new hn (exo_ok ht), rfl, h a hn⟩
end Vf

set_option maxRecDepth 100000
set_option maxHeartbeats 4000000
namespace Vf
open PySem PySem.Spec PyProof.Rows L2 SX LamX
/-! ### a def whose code object is told; lambdas handed on -/
structure FunC (K : PySem.W.Frag) (mg : Str → Option Value) (x : Str) (st : Stmt) (f : Addr) (fd : FuncData) (c : Addr) : Prop where
  ex : ∃ (oc : Value) (od : Option Addr) (dV kV doc pm : Value) (an : Option Addr) (ct : Value) (osl : Array (Option Value)),
    fd = PySem.W.fnOf x x (C8.fnArgs st) (C8.fnBody st) (C8.fnScope st) dV kV doc pm an (.ref c) ct ∧ K.lookup f = some ⟨oc, od, .func fd, osl⟩ ∧ PySem.W.codeIn K (.ref c) x = true
  mgf : mg x = some (.ref f)
  kp : PySem.W.keepIn K (.ref f) = true
section
variable {P : Program} {w : World} {K : PySem.W.Frag} {mg : Str → Option Value} {base : Heap}
theorem cal0c {x : Str} {st : Stmt} {f c : Addr} {fd : FuncData} {N ps : List Str} {k : Nat} {sp : Sp} (F : FunC K mg x st f fd c) (b : Binds K fd ps []) (S : FnScope N ps (C8.fnScope st)) (len : ∀ vs H Q E, sp vs H Q E → vs.length = ps.length)
    (hb : ∀ (A : Around) (outer : List Env) (s : Shared) (H : Hp) (vs : List V) (Q : VK) (E : XK), Room k (A.deeper (envOfC x (C8.fnScope st) s.heap.objs.size f (.ref c))) → sp vs H Q E →
      ∃ t, PSs (cxOf C8.CX0 P w K mg base N x (C8.fnScope st) f (.ref c) A outer s H E).nox (C8.fnBody st) t ∧ t { nx := fun _ h => Q .non h, rt := Q } (L2.start N vs) H) : C8.Cal P w K mg base (k + 1) x sp [] := by
  obtain ⟨oc, od, dV, kV, dc, pm, an, ct, sl, rfl, lk, hc⟩ := F.ex
  refine ⟨f, _, ps, [], fn_of lk hc S len fun A outer s H vs Q E hr h => ?_, F.mgf, F.kp, b, .nil⟩
  obtain ⟨t, h1, q⟩ := hb A outer s H vs Q E hr h
  exact ⟨t, h1.nox, q⟩
end
/-! ### repr of scalars -/
def reprV : V → Str
  | .non => "None"
  | .bl b => if b then "True" else "False"
  | .int i => toString i
  | .str x => reprText x
  | _ => ""
def ScR (v : V) : Prop := v = .non ∨ (∃ b, v = .bl b) ∨ (∃ i : Int, v = .int i ∧ i.natAbs.log2 < 1920) ∨ ∃ x : Str, v = .str x ∧ (reprText x).length ≤ sizeLine
theorem call_reprS {X : Cx} : CallR X (.builtin "repr") (fun xs H Q => ∃ v, xs = [v] ∧ ScR v ∧ Q (.str (reprV v)) H) := by
  intro pins s σ H xs us Q I r h
  obtain ⟨v, rfl, hv, q⟩ := h
  rcases hv with rfl | ⟨b, rfl⟩ | ⟨i, rfl, hz⟩ | ⟨x, rfl, hz⟩
  · obtain ⟨u, rfl, ru⟩ := vals1 r
    cases ru
    exact PySem.P.repr_of_none ⟨.str _, H, I.tok _, ⟨_, rfl⟩, q⟩
  · obtain ⟨u, rfl, ru⟩ := vals1 r
    cases ru
    exact PySem.P.repr_of_bool ⟨.str _, H, I.tok _, ⟨_, rfl⟩, q⟩
  · obtain ⟨u, rfl, t, rfl⟩ := vals1 r
    exact PySem.P.repr_of_int hz ⟨.str _, H, I.tok _, ⟨_, rfl⟩, q⟩
  · obtain ⟨u, rfl, t, rfl⟩ := vals1 r
    exact PySem.P.repr_of_str ⟨.str _, H, I.tok _, ⟨_, rfl⟩, q⟩ hz
/-! ### isinstance of a caught error that has a dict of its own -/
def rIsE2 (K : PySem.W.Frag) (cls : Value) (d : Option Addr) (a : Addr) : List V → Hp → VK → Prop := fun xs H Q => ∃ (D dd : Addr) (fs : List (Str × V)) (c : V) (cv : Value) (b : Bool), cls = .ref D ∧ d = some dd ∧ H dd = some (.xd fs) ∧ xs = [.ref a, c] ∧ ExcC K D ∧ (∀ u, RelV c u → u = cv) ∧ PySem.W.kitOne K (.ref D) cv = some b ∧ Q (.bl b) H
theorem call_isE2 {X : Cx} {a : Addr} {cls : Value} {d : Option Addr} {oe : Obj} {pn : List (Addr × Obj)} (hz : Zc cls d oe) (hf : ∃ vs, oe.data = .fields vs) : CallR (X.suite a ((a, oe) :: pn)) (.builtin "isinstance") (rIsE2 X.K cls d a) := by
  intro pins s σ H xs us Q I r h
  obtain ⟨D, dd, fs, c, cv, b, rfl, rfl, hd, rfl, C, hcv, e, q⟩ := h
  obtain ⟨u1, u2, rfl, r1, r2⟩ := vals2 r
  have ec := hcv _ r2
  subst ec
  obtain rfl : u1 = Value.ref a := r1
  obtain ⟨hget, _⟩ := I.pin (a, oe) (List.mem_append.mpr (.inl List.mem_cons_self))
  obtain ⟨vs, hv⟩ := hf
  have hx : ObjOk X.prog X.w H s.heap dd (.xd fs) := I.hok dd _ hd
  obtain ⟨mA, hns, _⟩ := hx
  obtain ⟨od, ho, _⟩ := lookIn_ns hns
  have J : PySem.W.InstAt s.heap a oe D (some od) := ⟨hget, hz.1, by unfold PySem.W.notCls; rw [hv] <;> rfl, by rw [hz.2]; exact ho⟩
  exact PySem.W.kia_one (kitx_exo C) I.kIn J e (fun z => nomatch z) fun tk => ⟨.bl b, H, I.tok tk, rfl, q⟩
theorem pe_fldK {X : Cx} {K : PySem.W.Frag} {e : Expr} {f : Str} {pos : Pos} {ta : TE} (hK : X.K = K) (he : PE X e ta) (hb : attributeBase e f X.env (eval e X.env) = eval e X.env) : PE X (.Attribute e f pos) (tFld K ta f) := by
  subst hK
  exact pe_fld he hb
def tKIx (K : PySem.W.Frag) (w : World) (td ty : TE) : TE := fun σ H Q => td σ H fun x H1 => ∃ d f, x = .ref d ∧ KD K w d f ∧ ty σ H1 fun y H2 => ∃ k v, y = .str k ∧ f k = some v ∧ Q v H2
/-- d[k], d a dict of the written part -/
theorem pe_kix {X : Cx} {o i : Expr} {pos : Pos} {td ty : TE} {K : PySem.W.Frag} {w : World} (hK : X.K = K) (hw : X.w = w) (ho : PE X o td) (hi : PE X i ty) (hs : NoSl i) : PE X (.Subscript o i pos) (tKIx K w td ty) := by
  subst hK hw
  refine ⟨fun pins s σ H Q I h => ?_⟩
  refine subD_of PySem.F.slot_dict_getitem.lookup hs (thn (ho.run pins s σ H _ I h) fun u s1 ⟨x, H1, I1, rx, d, g, ex, ⟨es, n, hl, hk, low, hg⟩, q1⟩ => thn (hi.run pins s1 σ H1 _ I1 q1) fun iv s2 ⟨y, H2, I2, ry, k, v, ey, ev, q2⟩ => ?_)
  subst ex
  subst ey
  obtain rfl : u = Value.ref d := rx
  obtain ⟨t, rfl⟩ := ry
  have hm := PySem.W.mapOf_K (prog := X.prog) (w := X.w) I2.kIn hl hk
  obtain ⟨z, hz, rz⟩ := RelO.some_of (v := v) (o := findBy Value.isStrOf es k) (by rw [← ev]; exact hg k)
  exact ⟨hm.typeIs, wpAny_getItem_of (strKind_is X.prog X.w k t) hm hz ⟨v, H2, I2.tok _, rz, q2⟩⟩
theorem pe_cls {X : Cx} {n : Str} {C : Addr} {p : Pos} (g : X.mg n = some (.ref C)) (hg : Gl X n) (hd : (n == ("__debug__" : Str)) = false := by decide) : PE X (.Name n p) (tC (.ref C)) := C8.pe_gc hg ⟨_, g, rfl⟩ hd
/-- what the two error classes say of one another -/
structure XF (K : PySem.W.Frag) (CB CN CW : Addr) : Prop where
  bb : PySem.W.exmOne K (.ref CB) (.ref CB) = some true
  nb : PySem.W.exmOne K (.ref CN) (.ref CB) = some false
  nn : PySem.W.exmOne K (.ref CN) (.ref CN) = some true
  bn : PySem.W.exmOne K (.ref CB) (.ref CN) = some false
  kb : PySem.W.kitOne K (.ref CB) (.ref CW) = some true
  kn : PySem.W.kitOne K (.ref CN) (.ref CW) = some true
  eb : ExcC K CB
  en : ExcC K CN
end Vf

set_option maxRecDepth 100000
set_option maxHeartbeats 4000000
namespace Vf
open PySem PySem.Spec PyProof.Rows L2 SX LamX
/-! ### sorted(xs, key=lambda x: ..) -/
theorem clo_none {cells : List (Str × Addr)} : ∀ {names : List (Str × NameKind)} {acc : List (Str × Addr)}, (∀ y ∈ names, y.2 ≠ .free) → cloFrom cells names acc = acc
  | [], _, _ => rfl
  | (n, k) :: r, acc, h => by
    unfold cloFrom
    have hk : (k == NameKind.free) = false := by
      have := h (n, k) (.head _)
      simpa using this
    rw [if_neg (by rw [hk]; simp)]
    exact clo_none fun y hy => h y (.tail _ hy)
section
variable {X : Cx} {pins : List (Addr × Obj)} {σ : L2.St} {H : Hp} {s : Shared}
theorem key_run {k : Nat} {A' : Around} {x q : Str} {N : List Str} {scope : Scope} {params : Arguments} {body : Expr} {f c' : Addr} {pm ctv v : Value} {y : V} {tb : TE} {Q : VK} (I : Inv X pins σ H s) (S : FnScope N [x] scope)
    (hf : s.heap.get? f = some (PySem.W.kla_obj "<lambda>" q params body scope [] pm c' ctv)) (hb : bindArgs (PySem.W.kla_fn "<lambda>" q params body scope [] pm (.ref c') ctv) ⟨[v], []⟩ = pure [(x, v)])
    (hr : Room (k + 1) A') (e0 : Env0 X.prog X.w X.K X.mg X.base A' X.stack s H) (hc : H c' = some (CodeO c' q)) (r : RelV y v)
    (hbody : ∀ (A : Around) (outer : List Env) (s : Shared) (H : Hp), Room k (A.deeper (envOfC q scope s.heap.objs.size f (.ref c'))) → PE (cxOf C8.CX0 X.prog X.w X.K X.mg X.base N q scope f (.ref c') A outer s H C8.E0) body tb)
    (ht : tb (L2.start N [y]) H Q) :
    codeAny (model X.prog X.w) A' (.call (.ref f) ⟨[v], []⟩) (CR C8.CX0 X.stack X.prog X.w H s Q C8.E0) s := by
  obtain ⟨⟨oc, vs, t, hoc, hdc, hvc⟩, _, _⟩ := I.hok c' _ hc
  have lim : s.heap.NoLimit := e0.mod.nolimit.keeps fun b o e => (e0.bs b o e).1
  have hkind : ∀ y ∈ [(x, v)], scope.names.lookup y.1 = some .local ∨ (scope.names.lookup y.1 = some .cell ∧ ((cellsFrom (s.heap.objs.size + 1) scope.names []).lookup y.1).isSome = true) := fun y hy => by
    rw [List.mem_singleton.mp hy]
    rcases S.par x (.head _) with q | q
    · exact .inl q
    · exact .inr ⟨q, PySem.W.cellsFrom_some _ _ _ (.inl q)⟩
  refine PySem.W.kla_callFunE hr.depth hf rfl S.co S.gen rfl ⟨c', oc, vs, t, rfl, hoc, hdc, hvc⟩ ?_
  rw [hb]
  refine wpAny_pure ?_
  refine wpAny_newFunctionEnv_cells S.kind hkind fun env he s1 xx => ?_
  subst he
  refine ⟨lim.keeps xx.toInCall.keep, ?_⟩
  show codeAny _ _ (.expr body (envOfC q scope s.heap.objs.size f (.ref c'))) _ _
  have J : Inv (cxOf C8.CX0 X.prog X.w X.K X.mg X.base N q scope f (.ref c') A' X.stack s H C8.E0) [] (L2.start N [y]) H s1 := inv_start (ps := [x]) (us := [v]) S hr.hd e0 rfl (.cons r .nil) xx
  refine PySem.W.kla_codeExpr (wpAny_mono ((hbody _ _ s H (hr.deeper _)).run [] s1 (L2.start N [y]) H Q J ht) (fun v s' hq => ?_) fun e s' hq => hq)
  obtain ⟨w', H', J', rv, q⟩ := hq
  exact ⟨w', H', J'.os, J'.bare, J'.base, J'.hok, rv, q⟩
/-- what a key's call does: a number, nothing else -/
def KEnd (X : Cx) (pins : List (Addr × Obj)) (σ : L2.St) (H : Hp) (k : Int) (u : Value) (s' : Shared) : Prop := ∃ t, u = .int k t ∧ Inv X pins σ H s'
theorem key_call {k : Nat} {A' : Around} {x q : Str} {N : List Str} {scope : Scope} {params : Arguments} {body : Expr} {f c' : Addr} {pm ctv v : Value} {y : V} {tb : TE} {z : Int} (I : Inv X pins σ H s) (S : FnScope N [x] scope)
    (hf : s.heap.get? f = some (PySem.W.kla_obj "<lambda>" q params body scope [] pm c' ctv)) (hb : bindArgs (PySem.W.kla_fn "<lambda>" q params body scope [] pm (.ref c') ctv) ⟨[v], []⟩ = pure [(x, v)])
    (hr : Room (k + 1) A') (e0 : Env0 X.prog X.w X.K X.mg X.base A' X.stack s H) (hc : H c' = some (CodeO c' q)) (r : RelV y v)
    (hbody : ∀ (A : Around) (outer : List Env) (s : Shared) (H : Hp), Room k (A.deeper (envOfC q scope s.heap.objs.size f (.ref c'))) → PE (cxOf C8.CX0 X.prog X.w X.K X.mg X.base N q scope f (.ref c') A outer s H C8.E0) body tb)
    (ht : tb (L2.start N [y]) H fun v' H' => v' = .int z ∧ H' = H) :
    wpAny (model X.prog X.w) A' (call (.ref f) [v]) (KEnd X pins σ H z) (fun _ _ => False) s := by
  refine wpAny_call (codeAny_mono (key_run I S hf hb hr e0 hc r hbody ht) fun rr s2 hq => ?_)
  cases rr with
  | error e => exact (show False from hq).elim
  | ok fl =>
    cases fl with
    | ret u =>
      obtain ⟨v', H', I', rv, rfl, rfl⟩ := I.after hq
      obtain ⟨t, rfl⟩ := rv
      exact ⟨t, rfl, I'⟩
    | next => exact False.elim hq
    | brk => exact False.elim hq
    | cont => exact False.elim hq
variable {A : Around} {E : Value → Shared → Prop} {a kS : Addr} {b : Bool} {vs : List Value} {kz : List Int} {keys : Array Value} {e e1 : Nat} {P : PySem.Fin → Shared → Prop}
theorem sk_tail {st : SortSt} (I : Inv X pins σ H s) (fa : FpOk X pins H a) (fk : FpOk X pins H kS) (hoa : s.heap.get? a = some (seqObj "list" #[] e1)) (hok : s.heap.get? kS = some (seqObj "list" keys e)) (hka : kS ≠ a)
    (hk : IntsAre keys.toList kz) (hlen : kz.length = vs.length) (h64 : vs.length < 64) (hp : (arrOf st).Perm (keys.zip vs.toArray)) (hs : SortedTo (arrOf st) (arrOf st).size) (hfl : failedOf st = none)
    (h : ∀ h' tk out c, Inv X pins σ H { s with heap := h', toks := tk } → h'.get? a = some (seqObj "list" out c) → KskOut b kz vs out.toList → P (.done (.ret .none)) { s with heap := h', toks := tk }) :
    wpAny (model X.prog X.w) A (ksk_tail a b e1 (.ref kS) st) P E s := by
  have hsz : keys.size = vs.length := by
    have h1 := hk.length
    rw [Array.length_toList] at h1
    omega
  have hsz2 : (arrOf st).size = vs.length := by rw [hp.size_eq, Array.size_zip, hsz, List.size_toArray, Nat.min_self]
  have hout : (if b then ((arrOf st).map (·.2)).reverse else (arrOf st).map (·.2)).size = vs.length := by
    cases b with
    | false => simp only [Bool.false_eq_true, if_false, Array.size_map]; exact hsz2
    | true => simp only [if_true, Array.size_reverse, Array.size_map]; exact hsz2
  have s1 := Heap.SameBut.update s.heap kS (Obj.mapSeq fun _ => (#[] : Array Value))
  have na1 : (s.heap.update kS (Obj.mapSeq fun _ => (#[] : Array Value))).get? a = some (seqObj "list" #[] e1) := (s1.2 a hka.symm).trans hoa
  have s2 := Heap.SameBut.update (s.heap.update kS (Obj.mapSeq fun _ => (#[] : Array Value))) a (Obj.mapSeq fun _ => if b then ((arrOf st).map (·.2)).reverse else (arrOf st).map (·.2))
  obtain ⟨c2, hc2⟩ : ∃ c2, ((s.heap.update kS (Obj.mapSeq fun _ => (#[] : Array Value))).update a (Obj.mapSeq fun _ => if b then ((arrOf st).map (·.2)).reverse else (arrOf st).map (·.2))).get? a = some (seqObj "list" (if b then ((arrOf st).map (·.2)).reverse else (arrOf st).map (·.2)) c2) :=
    ⟨_, get?_update_seq na1 fun _ => if b then ((arrOf st).map (·.2)).reverse else (arrOf st).map (·.2)⟩
  unfold ksk_tail
  try dsimp only
  refine wpAny_bind (listUpdate_at hok rfl ?_ (by rw [hsz, sizeLine_eq]; omega) (Nat.zero_le _))
  refine wpAny_bind (wpAny_letGo ?_)
  refine wpAny_bind (seqEpoch_at na1 rfl ?_)
  refine wpAny_bind (listUpdate_at na1 rfl ?_ (Nat.zero_le _) (Nat.le_trans (Nat.le_of_eq hout) (by rw [sizeLine_eq]; omega)))
  rw [hfl]
  simp only [bne_self_eq_false, Bool.false_eq_true, if_false]
  refine wpAny_pure (h _ _ _ c2 (I.turnedL (ch := [a, kS]) (fun d o hd e => ?_) fun d hd => ?_) hc2 (ksk_out hk hp hs))
  · have n1 : d ≠ a := fun z => hd (by simp [z])
    have n2 : d ≠ kS := fun z => hd (by simp [z])
    exact (s2.2 d n1).trans ((s1.2 d n2).trans e)
  · rcases List.mem_cons.mp hd with rfl | hd
    · exact fa
    · rw [List.mem_singleton.mp hd]; exact fk
theorem sk_end (I : Inv X pins σ H s) (fa : FpOk X pins H a) (fk : FpOk X pins H kS) (hoa : s.heap.get? a = some (seqObj "list" #[] e1)) (hok : s.heap.get? kS = some (seqObj "list" keys e)) (hka : kS ≠ a)
    (hk : IntsAre keys.toList kz) (hlen : kz.length = vs.length) (h64 : vs.length < 64)
    (h : ∀ h' tk out c, Inv X pins σ H { s with heap := h', toks := tk } → h'.get? a = some (seqObj "list" out c) → KskOut b kz vs out.toList → P (.done (.ret .none)) { s with heap := h', toks := tk }) :
    wpAny (model X.prog X.w) A (ksk_end a b vs.toArray e1 (.ref kS) keys) P E s := by
  have hsz : keys.size = vs.length := by
    have h1 := hk.length
    rw [Array.length_toList] at h1
    omega
  have hzs : (keys.zip vs.toArray).size = vs.length := by rw [Array.size_zip, hsz, List.size_toArray, Nat.min_self]
  have step : ∀ t : Sem PySem.Fin, wpAny (model X.prog X.w) A t P E s → wpAny (model X.prog X.w) A (if b = true then (do let _ ← rule "list.sort.reverse"; t) else t) P E s := by
    intro t ht
    split
    · exact wpAny_bind (wpAny_rule ht)
    · exact ht
  have hstart : (if b = true then (keys.zip vs.toArray).reverse else keys.zip vs.toArray).Perm (keys.zip vs.toArray) := by
    cases b with
    | false => exact Array.Perm.refl _
    | true => exact Array.perm_iff_toList_perm.mpr (by rw [if_pos rfl, Array.toList_reverse]; exact List.reverse_perm _)
  unfold ksk_end
  try dsimp only
  refine step _ ?_
  by_cases h2 : vs.toArray.size < 2
  · rw [if_pos h2, if_pos h2]
    refine wpAny_bind (wpAny_pure ?_)
    rw [StateT.run_pure]
    refine wpAny_bind (wpAny_pure ?_)
    try dsimp only
    refine sk_tail (st := SortSt.mk' general' (if b = true then (keys.zip vs.toArray).reverse else keys.zip vs.toArray) #[] 7 none) I fa fk hoa hok hka hk hlen h64 hstart ?_ rfl h
    intro i j hij hj
    have hj2 : j < (if b = true then (keys.zip vs.toArray).reverse else keys.zip vs.toArray).size := hj
    rw [hstart.size_eq, hzs] at hj2
    rw [List.size_toArray] at h2
    have : i = j := by omega
    subst this
    exact Int.le_refl _
  · rw [if_neg h2, if_neg h2]
    rw [List.size_toArray] at h2
    rw [ksk_kind hk (by rw [hsz]; omega)]
    refine wpAny_bind (wpAny_pure ?_)
    refine wpAny_bind (wpAny_mono (wpS_sortRuns (a₀ := keys.zip vs.toArray) (st := SortSt.mk' oneType' (if b = true then (keys.zip vs.toArray).reverse else keys.zip vs.toArray) #[] 7 none)
      (Q := fun _ st' => (arrOf st').Perm (keys.zip vs.toArray) ∧ failedOf st' = none ∧ SortedTo (arrOf st') (keys.zip vs.toArray).size)
      (ksk_intKeys hk) ⟨hstart, rfl, rfl, rfl⟩ (by rw [hzs]; omega) (by rw [hzs]; exact h64) fun st' a1 a2 a3 => ⟨a1, a2, a3⟩) ?_ fun _ _ e => e)
    rintro ⟨⟨⟩, st'⟩ s' ⟨rfl, hp, hf, hs⟩
    try dsimp only
    exact sk_tail I fa fk hoa hok hka hk hlen h64 hp (by rw [hp.size_eq]; exact hs) hf h
theorem sk_rest {f : Value} (I : Inv X pins σ H s) (fa : FpOk X pins H a) (fk : FpOk X pins H kS) (hoa : s.heap.get? a = some (seqObj "list" #[] e1)) (hok : s.heap.get? kS = some (seqObj "list" #[] 0)) (hka : kS ≠ a)
    (hlen : kz.length = vs.length) (h64 : vs.length < 64)
    (turn : ∀ (i : Nat) (v : Value) (k : Int), vs[i]? = some v → kz[i]? = some k → ∀ (pl : List (Addr × Obj)) (s' : Shared), Inv X (pins ++ pl) σ H s' → wpAny (model X.prog X.w) A (call f [v]) (KEnd X (pins ++ pl) σ H k) (fun _ _ => False) s')
    (h : ∀ (s' : Shared) (h' : Heap) (tk : Nat) (out : Array Value) (c : Nat), Inv X pins σ H { s' with heap := h', toks := tk } → h'.get? a = some (seqObj "list" out c) → KskOut b kz vs out.toList → P (.done (.ret .none)) { s' with heap := h', toks := tk }) :
    wpAny (model X.prog X.w) A (ksk_rest a f b vs.toArray e1 (.ref kS)) P E s := by
  unfold ksk_rest
  refine wpAny_bind (wpAny_rule ?_)
  first
    | rw [List.forIn_toArray]
    | (rw [← Array.forIn_toList]; simp only [List.toList_toArray])
    | rw [← Array.forIn_toList]
  refine wpAny_bind (ksk_fold (fun i s' => ∃ kA e, Inv X pins σ H s' ∧ s'.heap.get? a = some (seqObj "list" #[] e1) ∧ s'.heap.get? kS = some (seqObj "list" kA e) ∧ IntsAre kA.toList (kz.take i)) vs 0 s
    ⟨#[], 0, I, hoa, hok, by simpa using IntsAre.nil⟩ ?step ?done)
  case step =>
    rintro j x s' hx ⟨kA, e, I', oa, ok, hk⟩
    simp only [Nat.zero_add] at hk ⊢
    have hj : j < vs.length := (List.getElem?_eq_some_iff.mp hx).1
    obtain ⟨k, hkj⟩ : ∃ k, kz[j]? = some k := ⟨_, List.getElem?_eq_getElem (by omega)⟩
    have hz : kA.size ≤ vs.length := by
      have h1 := hk.length
      rw [Array.length_toList, List.length_take] at h1
      omega
    have hfp : ∀ b ∈ [a, kS], FpOk X pins H b := fun d hd => by
      rcases List.mem_cons.mp hd with rfl | hd
      · exact fa
      · rw [List.mem_singleton.mp hd]; exact fk
    have hob : ∀ b ∈ [a, kS], ∃ o, s'.heap.get? b = some o ∧ ∀ v, o.data ≠ .cell v := fun d hd => by
      rcases List.mem_cons.mp hd with rfl | hd
      · exact ⟨_, oa, fun v z => by cases z⟩
      · rw [List.mem_singleton.mp hd]; exact ⟨_, ok, fun v z => by cases z⟩
    refine wpAny_bind (wpAny_attempt (wpAny_mono (turn j x k hx hkj _ s' (I'.pinned hfp hob)) (fun v s'' he => ?_) fun _ _ hF => hF.elim))
    obtain ⟨t2, rfl, I2⟩ := he
    try dsimp only
    have oa2 := (I2.pin (a, seqObj "list" #[] e1) (List.mem_append_right _ (List.mem_append_right _ (mem_pinsAt (by simp) oa)))).1
    have ok2 := (I2.pin (kS, seqObj "list" kA e) (List.mem_append_right _ (List.mem_append_right _ (mem_pinsAt (by simp) ok)))).1
    have I3 := I2.unpinned
    have s1 := Heap.SameBut.update s''.heap kS (Obj.mapSeq (·.push (.int k t2)))
    obtain ⟨c2, hc2⟩ : ∃ c2, (s''.heap.update kS (Obj.mapSeq (·.push (.int k t2)))).get? kS = some (seqObj "list" (kA.push (.int k t2)) c2) := ⟨_, get?_update_seq ok2 (·.push (.int k t2))⟩
    have ek : kz.take (j + 1) = kz.take j ++ [k] := by rw [List.take_add_one, hkj]; simp
    have ea : (kA.push (Value.int k t2)).toList = kA.toList ++ [Value.int k t2] := by simp
    refine wpAny_bind (listUpdate_at ok2 rfl ?_ (by rw [sizeLine_eq]; omega) (Nat.le_trans (Nat.le_of_eq (Array.size_push ..)) (by rw [sizeLine_eq]; omega)))
    refine wpAny_pure ⟨rfl, kA.push (.int k t2), c2, I3.turnedL (ch := [kS]) (fun d o hd e => (s1.2 d fun z => hd (by simp [z])).trans e) (fun d hd => by rw [List.mem_singleton.mp hd]; exact fk), (s1.2 a hka.symm).trans oa2, hc2, by rw [ea, ek]; exact ksk_snoc hk⟩
  case done =>
    rintro s' ⟨kA, e, I', oa, ok, hk⟩
    have hk' : IntsAre kA.toList kz := by
      have e3 : kz.take (0 + vs.length) = kz := List.take_of_length_le (by omega)
      rw [e3] at hk
      exact hk
    try dsimp only
    refine wpAny_bind (listItems_at ok rfl ?_)
    exact sk_end I' fa fk oa ok hka hk' hlen h64 fun h3 tk3 out c F3 N3 k3 => h s' h3 tk3 out c F3 N3 k3
theorem sk_sort {f : Value} {n : Nat} (I : Inv X pins σ H s) (fa : FpOk X pins H a) (ho : s.heap.get? a = some (seqObj "list" vs.toArray n))
    (hlen : kz.length = vs.length) (h64 : vs.length < 64)
    (turn : ∀ (i : Nat) (v : Value) (k : Int), vs[i]? = some v → kz[i]? = some k → ∀ (pl : List (Addr × Obj)) (s' : Shared), Inv X (pins ++ pl) σ H s' → wpAny (model X.prog X.w) A (call f [v]) (KEnd X (pins ++ pl) σ H k) (fun _ _ => False) s')
    (h : ∀ (s' : Shared) (h' : Heap) (tk : Nat) (out : Array Value) (c : Nat), Inv X pins σ H { s' with heap := h', toks := tk } → h'.get? a = some (seqObj "list" out c) → KskOut b kz vs out.toList → P (.done (.ret .none)) { s' with heap := h', toks := tk }) :
    wpAny (model X.prog X.w) A (ksk_tree a f b) P E s := by
  have ha : a < s.heap.objs.size := Heap.lt_size ho
  have s1 := Heap.SameBut.update s.heap a (Obj.mapSeq fun _ => (#[] : Array Value))
  obtain ⟨e1, ho1⟩ : ∃ e1, (s.heap.update a (Obj.mapSeq fun _ => (#[] : Array Value))).get? a = some (seqObj "list" #[] e1) := ⟨_, get?_update_seq ho fun _ => #[]⟩
  have hkS : ((s.heap.update a (Obj.mapSeq fun _ => (#[] : Array Value))).push (seqObj "tuple" vs.toArray 0)).objs.size = s.heap.objs.size + 1 := by rw [size_push', Heap.size_update]
  unfold ksk_tree
  refine wpAny_bind (listItems_at ho rfl ?_)
  refine wpAny_bind (listUpdate_at ho rfl ?_ (by rw [List.size_toArray, sizeLine_eq]; omega) (Nat.zero_le _))
  refine wpAny_bind (seqEpoch_at ho1 rfl ?_)
  refine wpAny_bind (wpAny_newTuple ?_ (by show vs.length ≤ _; rw [sizeLine_eq]; omega))
  refine wpAny_bind (wpAny_newList ?_ (Nat.zero_le _))
  refine wpAny_holding ?_
  refine sk_rest (s := { s with heap := ((s.heap.update a (Obj.mapSeq fun _ => (#[] : Array Value))).push (seqObj "tuple" vs.toArray 0)).push (seqObj "list" #[] 0) }) (kS := ((s.heap.update a (Obj.mapSeq fun _ => (#[] : Array Value))).push (seqObj "tuple" vs.toArray 0)).objs.size)
    (I.turnedL (t' := s.toks) (ch := [a]) (fun d o hd e => ?_) fun d hd => ?_) fa (I.fpOk (by rw [hkS]; omega) (I.hok.fresh (by rw [hkS]; omega))) ?_ ?_ (by rw [hkS]; exact Nat.ne_of_gt (Nat.lt_succ_of_lt ha)) hlen h64 turn h
  · exact Heap.get?_push_of_some _ (Heap.get?_push_of_some _ ((s1.2 d fun z => hd (by simp [z])).trans e))
  · rw [List.mem_singleton.mp hd]; exact fa
  · exact Heap.get?_push_of_some _ (Heap.get?_push_of_some _ ho1)
  · exact Heap.get?_push_size _ rfl
end
end Vf

set_option maxRecDepth 100000
set_option maxHeartbeats 4000000
namespace Vf
open PySem PySem.Spec PyProof.Rows L2 SX LamX
section
variable {X : Cx} {pins : List (Addr × Obj)} {σ : L2.St} {H : Hp} {s : Shared} {E : Value → Shared → Prop} {b : Bool} {vs : List Value} {kz : List Int} {Q : Value → Shared → Prop}
theorem sk_sorted {l : Addr} {f : Value} {kw : List (Str × Value)} (I : Inv X pins σ H s) (hl : s.heap.IsList l vs.toArray) (hlen : kz.length = vs.length) (h64 : vs.length < 64)
    (ha1 : argsOk "sorted" ⟨[.ref l], kw⟩) (ha2 : ∀ x, argsOk "list.sort" ⟨[.ref x], kw⟩) (ht : ∀ x, Builtin.«list.sort» ⟨[.ref x], kw⟩ = ksk_tree x f b)
    (turn : ∀ (i : Nat) (v : Value) (k : Int), vs[i]? = some v → kz[i]? = some k → ∀ (pl : List (Addr × Obj)) (s' : Shared), Inv X (pins ++ pl) σ H s' → wpAny (model X.prog X.w) X.A.in1.in1 (call f [v]) (KEnd X (pins ++ pl) σ H k) (fun _ _ => False) s')
    (h : ∀ (D : Addr) (s' : Shared) (h' : Heap) (tk : Nat) (out : Array Value) (c : Nat), Inv X pins σ H { s' with heap := h', toks := tk } → FpOk X pins H D → h'.get? D = some (seqObj "list" out c) → KskOut b kz vs out.toList → Q (.ref D) { s' with heap := h', toks := tk }) :
    wpAny (model X.prog X.w) X.A (call (.builtin "sorted") [.ref l] kw) Q E s := by
  refine call_function_entry_kw kind_sorted plain_sorted entry_sorted ha1 ?_
  unfold Builtin.«sorted»
  refine wpAny_bind (m := checkCount "sorted" 1 1 _) (wpAny_pure ?_)
  refine wpAny_bind (collect_list hl ?_ (by rw [sizeLine_eq]; omega))
  refine wpAny_bind (wpAny_newList ?_ (by rw [sizeLine_eq]; omega))
  have hsz : ((s.heap.push (seqObj "list" #[] 0)).update s.heap.objs.size (Obj.mapSeq (· ++ vs.toArray))).objs.size = s.heap.objs.size + 1 := by
    rw [Heap.size_update, size_push']
  have hoL : (((s.heap.push (seqObj "list" #[] 0)).update s.heap.objs.size (Obj.mapSeq (· ++ vs.toArray))).push (seqObj "list" vs.toArray 0)).get? (s.heap.objs.size + 1) = some (seqObj "list" vs.toArray 0) := by
    rw [← hsz]; exact Heap.get?_push_size _ rfl
  have keep : ∀ b o, s.heap.get? b = some o → (((s.heap.push (seqObj "list" #[] 0)).update s.heap.objs.size (Obj.mapSeq (· ++ vs.toArray))).push (seqObj "list" vs.toArray 0)).get? b = some o := fun b o q => by
    have hlt : b < s.heap.objs.size := Heap.lt_size q
    rw [Heap.get?_push_ne _ _ _ (by rw [hsz]; exact Nat.ne_of_lt (Nat.lt_succ_of_lt hlt)), Heap.get?_update_ne _ _ _ _ (Nat.ne_of_lt hlt), Heap.get?_push_ne _ _ _ (Nat.ne_of_lt hlt)]
    exact q
  have fD : FpOk X pins H (s.heap.objs.size + 1) := I.fpOk (Nat.le_succ _) (I.hok.fresh (Nat.le_succ _))
  show wpAny _ _ _ _ _ { s with heap := ((s.heap.push (seqObj "list" #[] 0)).update s.heap.objs.size (Obj.mapSeq (· ++ vs.toArray))).push (seqObj "list" vs.toArray 0) }
  rw [hsz]
  refine wpAny_bind (wpAny_holding (wpAny_call_entry_kw slot_list_sort ⟨_, hoL, rfl⟩ entry_list_sort ?body (ha2 _)))
  case body =>
    have ht' := ht (s.heap.objs.size + 1)
    show wpAny (model X.prog X.w) X.A.in1.in1 (Builtin.«list.sort» ⟨[.ref (s.heap.objs.size + 1)], kw⟩) _ _ _
    rw [ht']
    refine sk_sort (s := { s with heap := ((s.heap.push (seqObj "list" #[] 0)).update s.heap.objs.size (Obj.mapSeq (· ++ vs.toArray))).push (seqObj "list" vs.toArray 0) })
      (I.kept (t' := s.toks) keep) fD hoL hlen h64 turn fun s' h' tk out c I' o' k' => ⟨_, rfl, ?_⟩
    exact wpAny_pure ⟨_, rfl, h _ s' h' tk out c I' fD o' k'⟩
theorem track_list {D : Addr} {ys : List V} {out : Array Value} {c : Nat} (I : Inv X pins σ H s) (f : FpOk X pins H D) (ho : s.heap.get? D = some (seqObj "list" out c)) (r : Vals ys out.toList) (hz : ys.length ≤ sizeLine) : Inv X pins σ (upd H D (.lst ys)) s := by
  have nD : ∀ b u, H b = some u → b ≠ D := fun b u e => ne_of_none e f.1
  refine I.step (h' := s.heap) (g' := s.gens) (d' := s.drawn) (t' := s.toks) (ch := [D]) (fun b hb => ?_) (fun b o _ _ _ e _ => e) (fun b o _ _ _ e _ => ⟨o.slots, e⟩) (fun b o hb _ n => ?_) (fun b o _ e => ⟨o, e⟩) (fun b xs e => ?_) (fun b o u e => ?_) (fun b ps e => ⟨#[], ?_⟩) (fun m hm => hm) (fun b u e => ?_) I.bare
  · rw [List.mem_singleton.mp hb]
    exact ⟨f.2.2.2.1, f.2.1, f.2.2.2.2.1, f.2.2.2.2.2⟩
  · rw [upd_ne fun z => hb (by simp [z])]; exact n
  · rw [upd_ne (nD b _ e)]; exact e
  · rw [upd_ne (nD b _ e)]; exact e
  · rw [upd_ne (nD b _ e), e]; simp
  · by_cases hb : b = D
    · subst hb
      rw [upd_same] at e
      cases e
      exact ⟨hz, out.toList, c, r, by rw [Array.toArray_toList]; exact ho⟩
    · rw [upd_ne hb] at e
      exact (I.hok b u e).stay (fun d v hd q => q) (fun d q => by rw [upd_ne (nD d _ q)]; exact q) fun d xs q => by rw [upd_ne (nD d _ q)]; exact q
end
theorem perm_map_inv {α β : Type} {f : α → β} {l₁ l₂ : List β} (p : l₁.Perm l₂) : ∀ {l : List α}, l₂ = l.map f → ∃ l' : List α, l'.Perm l ∧ l₁ = l'.map f := by
  induction p with
  | nil => intro l h; exact ⟨l, .refl _, h⟩
  | cons x p ih =>
    intro l h
    cases l with
    | nil => cases h
    | cons a l0 =>
      rw [List.map_cons] at h
      cases h
      obtain ⟨l', q, rfl⟩ := ih rfl
      exact ⟨a :: l', q.cons a, rfl⟩
  | swap x y l0 =>
    intro l h
    cases l with
    | nil => cases h
    | cons a l1 =>
      cases l1 with
      | nil => cases h
      | cons c l2 =>
        simp only [List.map_cons] at h
        cases h
        exact ⟨c :: a :: l2, .swap _ _ _, rfl⟩
  | trans p q ih1 ih2 =>
    intro l h
    obtain ⟨l1, q1, e1⟩ := ih2 h
    obtain ⟨l2, q2, e2⟩ := ih1 e1
    exact ⟨l2, q2.trans q1, e2⟩
theorem vals_zip : ∀ {xs : List V} {vs : List Value}, Vals xs vs → (∀ p ∈ xs.zip vs, RelV p.1 p.2) ∧ (xs.zip vs).map Prod.fst = xs
  | _, _, .nil => ⟨fun _ h => (nomatch h), rfl⟩
  | _, _, .cons r t => ⟨fun p hp => by
      rcases List.mem_cons.mp hp with rfl | hp
      · exact r
      · exact (vals_zip t).1 p hp, by
      simp only [List.zip_cons_cons, List.map_cons, (vals_zip t).2]⟩
theorem vals_of {zs : List (V × Value)} (h : ∀ p ∈ zs, RelV p.1 p.2) : Vals (zs.map Prod.fst) (zs.map Prod.snd) := by
  induction zs with
  | nil => exact .nil
  | cons p r ih => exact .cons (h p (.head _)) (ih fun q hq => h q (.tail _ hq))
/-- what comes out, told of the values -/
theorem ksk_vals {k : V → Int} {xs : List V} {vs out : List Value} (r : Vals xs vs) (h : KskOut false (xs.map k) vs out) : ∃ ys : List V, ys.Perm xs ∧ ys.Pairwise (fun p q => k p ≤ k q) ∧ Vals ys out := by
  obtain ⟨ps, hp, rfl, hs⟩ := h
  have e : (xs.map k).zip vs = (xs.zip vs).map fun p => (k p.1, p.2) := by
    rw [List.zip_map_left]
    rfl
  rw [e] at hp
  obtain ⟨zs, q, rfl⟩ := perm_map_inv hp rfl
  obtain ⟨r1, r2⟩ := vals_zip r
  refine ⟨zs.map Prod.fst, ?_, ?_, ?_⟩
  · have := q.map Prod.fst
    rw [r2] at this
    exact this
  · rw [List.pairwise_map] at hs ⊢
    exact hs.imp fun {a c} h => by simpa using h
  · have e2 : (zs.map fun p : V × Value => (k p.1, p.2)).map Prod.snd = zs.map Prod.snd := by rw [List.map_map]; rfl
    rw [e2]
    exact vals_of fun p hp => r1 p (q.mem_iff.mp hp)
def tSortK (K : PySem.W.Frag) (T : List (Addr × Str)) (N : List Str) (tb : TE) (ta : TA) : TE := fun σ H Q => ta σ H fun ws H1 => ∃ (a : Addr) (xs : List V) (k : V → Int), ws = [.ref a] ∧ SqL K H1 a xs ∧ xs.length < 64 ∧ Tabs T H1 ∧
  (∀ H2, ExtN H1 H2 → ∀ y ∈ xs, tb (L2.start N [y]) H2 fun v' H' => v' = .int (k y) ∧ H' = H2) ∧
  ∀ (H2 : Hp) (D : Addr) (ys : List V), ExtN H1 H2 → Tabs T H2 → H2 D = none → ys.Perm xs → ys.Pairwise (fun p q => k p ≤ k q) → Q (.ref D) (upd H2 D (.lst ys))
theorem sqL_extN {K : PySem.W.Frag} {H H' : Hp} {a : Addr} {xs : List V} (h : SqL K H a xs) (e : ExtN H H') : SqL K H' a xs := by
  rcases h with (h | ⟨o, h⟩) | h
  · exact .inl (.inl (e _ _ h fun _ z => by cases z))
  · exact .inl (.inr ⟨o, e _ _ h fun _ z => by cases z⟩)
  · exact .inr h
/-- sorted(xs, key=lambda x: ..) -/
theorem pe_sortedK {X : Cx} {T : List (Addr × Str)} {c P : Addr} {k : Nat} {x : Str} {N : List Str} {params : Arguments} {body : Expr} {scope : Scope} {e : Expr} {ta : TA} {tb : TE} {p pos kpos lpos : Pos} (hg : Gl X "sorted") (hm : X.mg "sorted" = none)
    (TB : TabB X.base X.mg c P) (hcode : X.env.code = .ref c) (hmT : (P, X.env.qual ++ "<lambda>") ∈ T) (hu : ∀ p ∈ T, p.1 = P → p.2 = X.env.qual ++ "<lambda>") (hr : Room (k + 3) X.A) (S : FnScope N [x] scope) (hdef : defaultsOf params X.env = ([], []))
    (hbind : ∀ (q : Str) (cl : List (Str × Addr)) (pm cv ctv v : Value), bindArgs (PySem.W.kla_fn "<lambda>" q params body scope cl pm cv ctv) ⟨[v], []⟩ = pure [(x, v)])
    (hbody : ∀ (A : Around) (outer : List Env) (s : Shared) (H : Hp) (f c' : Addr), Room k (A.deeper (envOfC (X.env.qual ++ "<lambda>") scope s.heap.objs.size f (.ref c'))) → PE (cxOf C8.CX0 X.prog X.w X.K X.mg X.base N (X.env.qual ++ "<lambda>") scope f (.ref c') A outer s H C8.E0) body tb)
    (ha : PA X [e] ta) (he : backTo pos (starEach [e] X.env) = (false, eval e X.env) :: backTo pos (starEach [] X.env) := by rfl) (hpl : (backTo pos (starEach [e] X.env)).any (·.1) = false := by rfl) :
    PE X (.Call (.Name "sorted" p) [e] [⟨some "key", .Lambda params body scope lpos, kpos⟩] pos) (tSortK X.K T N tb ta) := by
  refine ⟨fun pins s σ H Q I h => ?_⟩
  refine wpAny_Call_Name_kw (ld_blt I hg hm (u := .builtin "sorted") (by rfl) ?_ (by decide) (by decide))
  refine PyProof.Rows.callWith_kw (thn (ha.run pos pins s σ H _ I h) fun us s1 ⟨ws, H1, I1, r1, a, xs, key, ew, hxs, h64, hT, hkey, q1⟩ => ?_) he hpl (by rfl) (by rfl)
  subst ew
  obtain ⟨u1, rfl, ru⟩ := vals1 r1
  obtain rfl : u1 = Value.ref a := ru
  show wpAny _ _ (evalAll ((do let v ← eval (.Lambda params body scope lpos) X.env; standAt pos; pure v) :: [])) _ _ s1
  refine wpAny_evalAll_cons (wpAny_bind (lam_make2 I1 TB hcode hmT hu hT hdef (fun y hy e => absurd e (S.nofree y hy)) fun f c' pm' ctv H2 s2 I2 eN T2 hf hfn hfr hco => wpAny_bind (wpAny_standAt (wpAny_pure (wpAny_evalAll_nil ?_)))))
  rw [clo_none S.nofree] at hf
  obtain ⟨vs, rv, pl, hsl⟩ := I2.list (sqL_extN hxs eN)
  have hvl : xs.length = vs.length := rv.length
  have fs : f ∉ X.fs := fun z => hfr (by
    rcases I2.ok.stk with e | ⟨e, _⟩
    · rw [e]; exact z
    · rw [e]
      show f ∈ frs (X.env :: X.outer)
      unfold frs
      rw [List.filterMap_cons]
      split
      · exact z
      · exact .tail _ z)
  have fl : f ≠ X.env.locals := fun z => by
    obtain ⟨m, ⟨o, es, ep, ho, hd', _⟩, _⟩ := I2.loc
    rw [← z, hf] at ho
    cases ho
    cases hd'
  have J : Inv X (pins ++ [(f, PySem.W.kla_obj "<lambda>" (X.env.qual ++ "<lambda>") params body scope [] pm' c' ctv)]) σ H2 s2 := I2.pins_of fun p hp => by
    rcases List.mem_append.mp hp with hp | hp
    · exact I2.pin p (List.mem_append_right _ hp)
    · rw [List.mem_singleton.mp hp]
      exact ⟨hf, hfn, fl, fs, fun v z => by cases z⟩
  show wpAny _ _ (call (.builtin "sorted") [.ref a] [(Str.ofString "key", .ref f)]) _ _ s2
  refine sk_sorted (kz := xs.map key) (vs := vs) (b := false) (f := .ref f) J pl.isList (by rw [List.length_map]; exact hvl) (by omega) (ksk_s1 _ _) (fun x => ksk_l1 _ _) (fun x => ksk_t1 f x) (fun i v kk hv hk pl' s' I' => ?_) fun D s' h' tk out cc I' fD ho ko => ?_
  · have hi : i < xs.length := by
      have := (List.getElem?_eq_some_iff.mp hv).1
      omega
    have hy : xs[i]? = some xs[i] := List.getElem?_eq_getElem hi
    obtain ⟨u, hu', ru⟩ := rv.get hy
    rw [hv] at hu'
    cases hu'
    rw [List.getElem?_map, hy] at hk
    cases hk
    have of' := (I'.pin (f, PySem.W.kla_obj "<lambda>" (X.env.qual ++ "<lambda>") params body scope [] pm' c' ctv) (List.mem_append_right _ (List.mem_append_left _ (List.mem_append_right _ (.head _))))).1
    exact key_call I' S of' (hbind _ _ _ _ _ _) hr.in1.in1 I'.env0.in1.in1 hco ru (fun A outer s H hr' => hbody A outer s H f c' hr') (hkey H2 eN xs[i] (List.getElem_mem hi))
  · obtain ⟨ys, hp, hs, hv⟩ := ksk_vals rv ko
    have I3 : Inv X pins σ H2 { s' with heap := h', toks := tk } := I'.unpinned
    have fD' : FpOk X pins H2 D := ⟨fD.1, fD.2.1, fD.2.2.1, fD.2.2.2.1, fD.2.2.2.2.1, fun p hp => fD.2.2.2.2.2 p (by
      rcases List.mem_append.mp hp with z | z
      · exact List.mem_append_left _ z
      · exact List.mem_append_right _ (List.mem_append_left _ z))⟩
    refine ⟨.ref D, _, track_list I3 fD' ho hv ?_, rfl, q1 H2 D ys eN T2 fD.1 hp hs⟩
    have e1 := hp.length_eq
    rw [sizeLine_eq]
    omega
end Vf

set_option maxRecDepth 100000
set_option maxHeartbeats 4000000
namespace Vf
open PySem PySem.Spec PyProof.Rows L2 SX LamX
theorem vals_get : ∀ {xs : List V} {us : List Value}, xs.length = us.length → (∀ (i : Nat) (x : V) (y : Value), xs[i]? = some x → us[i]? = some y → RelV x y) → Vals xs us
  | [], [], _, _ => .nil
  | [], _ :: _, h, _ => nomatch h
  | _ :: _, [], h, _ => nomatch h
  | x :: xs, u :: us, h, r => .cons (r 0 x u rfl rfl) (vals_get (Nat.succ.inj h) fun i x y hx hy => r (i + 1) x y hx hy)
theorem ne_cls {s : Shared} {a b : Addr} {T T' : String} (h : s.TypeIs (.ref a) T) (h' : s.TypeIs (.ref b) T') (n : T ≠ T') : a ≠ b := fun z => by
  obtain ⟨o, ho, hc⟩ := h
  obtain ⟨o', ho', hc'⟩ := h'
  rw [z, ho'] at ho
  cases ho
  rw [hc] at hc'
  exact n (Value.type.inj hc')
/-! ### list(text) -/
theorem call_listS {X : Cx} (hc : X.calm = true) : CallR X (.type "list") (fun xs H Q => ∃ (l : List Nat), xs = [.str (S l)] ∧ l.length ≤ 1000000 ∧ ∀ p, H p = none → Q (.ref p) (upd H p (.lst (l.map fun c => .str (S [c]))))) := by
  intro pins s σ H xs us Q I r h
  obtain ⟨l, rfl, hl, q⟩ := h
  obtain ⟨u, rfl, ru⟩ := vals1 r
  obtain ⟨t, rfl⟩ := ru
  have hz0 : (S l).cps.size = l.length := by show l.toArray.size = _; exact List.size_toArray
  refine call_list_str (I.ok.hd hc) (S l) t (hn := by rw [hz0]; exact Nat.le_trans hl (by decide)) fun h' tk acc' c' hk hS' hacc => ?_
  have hz : acc'.size = l.length := by rw [hacc.1, hz0]
  have hv : Vals (l.map fun c => V.str (S [c])) acc'.toList := by
    refine vals_get (by rw [List.length_map, Array.length_toList]; exact hz.symm) fun i x y hx hy => ?_
    rw [List.getElem?_map] at hx
    obtain ⟨c, u, hc', rfl⟩ := hacc.2 i y (by rw [← Array.getElem?_toList]; exact hy)
    have e : l[i]? = some c := by
      have : (S l).cps[i]? = l[i]? := by show l.toArray[i]? = _; rw [List.getElem?_toArray]
      rw [← this]; exact hc'
    rw [e] at hx
    cases hx
    exact ⟨u, rfl⟩
  refine ⟨.ref s.heap.objs.size, _, I.laid (a := s.heap.objs.size) (o := .lst (l.map fun c => V.str (S [c]))) (t' := tk) hk (Nat.le_refl _) ⟨by rw [List.length_map]; exact Nat.le_trans hl (by decide), acc'.toList, c', hv, by rw [Array.toArray_toList]; exact hS'⟩, rfl, q _ (I.hok.fresh (Nat.le_refl _))⟩
/-! ### enumerate(list, start=k), enumerate(tuple) -/
def IteK (K : PySem.W.Frag) (a : Addr) (k0 : Int) : It :=
  ⟨fun i H => ∃ (xs : List V) (x : V), SqL K H a xs ∧ xs[i]? = some x, fun i H v H' => ∃ T x, v = .ref T ∧ H T = none ∧ H' = upd H T (.tup [.int (k0 + ((i : Nat) : Int)), x]) ∧ ∀ xs, SqL K H a xs → xs[i]? = some x, fun i H => ∃ xs : List V, SqL K H a xs ∧ xs.length = i⟩
def IteT (K : PySem.W.Frag) (a : Addr) : It :=
  ⟨fun i H => ∃ (xs : List V) (x : V), SqT K H a xs ∧ xs[i]? = some x, fun i H v H' => ∃ T x, v = .ref T ∧ H T = none ∧ H' = upd H T (.tup [.int ((i : Nat) : Int), x]) ∧ ∀ xs, SqT K H a xs → xs[i]? = some x, fun i H => ∃ xs : List V, SqT K H a xs ∧ xs.length = i⟩
theorem turn_enumK {P : Program} {w : World} {K : PySem.W.Frag} {elts : List Expr} {kk : Nat} {tpos : Pos} (a e it : Addr) (k0 : Int) :
    Turn P w K (.Tuple elts kk tpos) (IteK K a k0) [e, it] e (fun i h => (∃ old, IsEnum h e it (k0 + ((i : Nat) : Int)) old) ∧ h.IsListIter it a i ∧ e ≠ it) where
  mem := by simp
  obj := fun i h st b hb => by
    obtain ⟨⟨old, he⟩, ⟨o, ho, hc, hd⟩, _⟩ := st
    have e' : b = e ∨ b = it := by simpa using hb
    rcases e' with z | z
    · rw [z]; exact ⟨_, he, fun v q => nomatch q⟩
    · rw [z]; exact ⟨o, ho, fun v q => by rw [hd] at q; cases q⟩
  keep := fun i h h' st k => let ⟨⟨old, he⟩, hi, hne⟩ := st; ⟨⟨old, k e (by simp) _ he⟩, hi.at fun o q => k it (by simp) o q, hne⟩
  item := by
    intro X hP hw hK hc i pins s σ H E I hf st hg
    subst hP hw hK
    obtain ⟨⟨old, he⟩, hit, hne⟩ := st
    obtain ⟨xs, x, hq, hx⟩ := hg
    obtain ⟨its, rv, p, hz⟩ := I.list hq
    obtain ⟨u, hu, ru⟩ := rv.get hx
    have hel : e < s.heap.objs.size := Heap.lt_size he
    have hil : it < s.heap.objs.size := by obtain ⟨_, q, _⟩ := hit; exact Heap.lt_size q
    have pl := p.isList
    have nea : e ≠ a := ne_cls (T := "enumerate") (T' := "list") ⟨_, he, rfl⟩ pl.typeIs (by decide)
    have nia : a ≠ it := by
      obtain ⟨o, ho, hcl, hd⟩ := hit
      exact ne_cls (T := "list") (T' := "list_iterator") pl.typeIs ⟨o, ho, hcl⟩ (by decide)
    have hlt : i < its.toArray.size := by
      have := (List.getElem?_eq_some_iff.mp hu).1
      rw [List.size_toArray]; exact this
    refine wpAny_pyNext_enum_itemC (Draws.list (prog := X.prog) (w := X.w) (A := X.A.in1) (I.ok.hd hc) it a nia its.toArray) he ⟨hit, pl⟩ hlt hne (by simp [hne, nea]) fun y h' tk hy ho ⟨hit', _⟩ hT hsz hk => ?_
    have ey : y = u := by
      have : its.toArray[i]? = some u := by rw [List.getElem?_toArray]; exact hu
      rw [this] at hy
      exact (Option.some.inj hy).symm
    subst ey
    refine ⟨_, rfl, wpAny_letOwnedTupleGo_enum (s := { s with heap := h', toks := tk + 1 }) ho fun h'' he' sb => ?_⟩
    have hT2 : h''.get? s.heap.objs.size = some { cls := .type "tuple", data := .seq #[.int (k0 + (i : Int)) tk, y] } := (sb.2 _ (Nat.ne_of_gt hel)).trans hT
    have new : ObjOk X.prog X.w (upd H s.heap.objs.size (.tup [.int (k0 + (i : Nat)), x])) h'' s.heap.objs.size (.tup [.int (k0 + (i : Nat)), x]) :=
      ⟨by show 2 ≤ sizeLine; decide, [.int (k0 + (i : Int)) tk, y], .cons ⟨_, rfl⟩ (.cons ru .nil), ⟨_, hT2, rfl, _, rfl⟩⟩
    have I1 : Inv X pins σ (upd H s.heap.objs.size (.tup [.int (k0 + (i : Nat)), x])) { s with heap := h'', toks := tk + 1 } :=
      I.turnedNew (ch := [e, it]) (fun b ob hb q => (sb.2 b (fun z => hb (by simp [z]))).trans (hk b ob (fun z => hb (by simp [z])) (fun z => hb (by simp [z])) q)) hf (Nat.le_refl _) new
    refine ⟨.ref s.heap.objs.size, _, I1, rfl, ⟨_, x, rfl, I.hok.fresh (Nat.le_refl _), rfl, fun ys hy => by rw [I.list_inj hy hq]; exact hx⟩, ⟨⟨y, ?_⟩, hit'.at fun o q => (sb.2 it (Ne.symm hne)).trans q, hne⟩, fun b hb => ?_⟩
    · have e1 : k0 + ((i + 1 : Nat) : Int) = k0 + (i : Int) + 1 := by omega
      rw [e1]; exact he'
    · have hb' : b < s.heap.objs.size := by
        have e' : b = e ∨ b = it := by simpa using hb
        rcases e' with z | z
        · rw [z]; exact hel
        · rw [z]; exact hil
      rw [upd_ne (Nat.ne_of_lt hb')]
      exact (hf b hb).1
  done := by
    intro X hP hw hK hc i pins s σ H E I hf st hg
    subst hP hw hK
    obtain ⟨⟨old, he⟩, hit, hne⟩ := st
    obtain ⟨xs, hq, hx⟩ := hg
    obtain ⟨its, rv, p, hz⟩ := I.list hq
    obtain ⟨f0, f1, f2, f3, f4, f5⟩ := hf it (by simp)
    have hl := rv.length
    have pl := p.isList
    have nia : a ≠ it := by
      obtain ⟨o, ho, hcl, hd⟩ := hit
      exact ne_cls (T := "list") (T' := "list_iterator") pl.typeIs ⟨o, ho, hcl⟩ (by decide)
    subst hx
    exact wpAny_pyNext_enum_endD (i := k0 + (xs.length : Int)) (Draws.list (prog := X.prog) (w := X.w) (A := X.A.in1) (I.ok.hd hc) it a nia its.toArray) he (by rw [List.size_toArray, ← hl]; exact ⟨hit, pl⟩) fun h' eb => ⟨rfl, I.turned (t' := s.toks) (fun b o hb q => eb b o hb q) f0 f1 f3 f4 f5⟩
  self := fun A i s Q E st h => let ⟨⟨_, he⟩, _⟩ := st; wpAny_pyIter_enum he h
theorem turn_enumT {P : Program} {w : World} {K : PySem.W.Frag} {elts : List Expr} {kk : Nat} {tpos : Pos} (a e it : Addr) :
    Turn P w K (.Tuple elts kk tpos) (IteT K a) [e, it] e (fun i h => (∃ old, IsEnum h e it ((i : Nat) : Int) old) ∧ h.IsTupleIter it a i ∧ e ≠ it) where
  mem := by simp
  obj := fun i h st b hb => by
    obtain ⟨⟨old, he⟩, ⟨o, ho, hc, hd⟩, _⟩ := st
    have e' : b = e ∨ b = it := by simpa using hb
    rcases e' with z | z
    · rw [z]; exact ⟨_, he, fun v q => nomatch q⟩
    · rw [z]; exact ⟨o, ho, fun v q => by rw [hd] at q; cases q⟩
  keep := fun i h h' st k => let ⟨⟨old, he⟩, hi, hne⟩ := st; ⟨⟨old, k e (by simp) _ he⟩, hi.at fun o q => k it (by simp) o q, hne⟩
  item := by
    intro X hP hw hK hc i pins s σ H E I hf st hg
    subst hP hw hK
    obtain ⟨⟨old, he⟩, hit, hne⟩ := st
    obtain ⟨xs, x, hq, hx⟩ := hg
    obtain ⟨its, rv, p, hz⟩ := I.tuple hq
    obtain ⟨u, hu, ru⟩ := rv.get hx
    have hel : e < s.heap.objs.size := Heap.lt_size he
    have hil : it < s.heap.objs.size := by obtain ⟨_, q, _⟩ := hit; exact Heap.lt_size q
    have pl : s.heap.IsTuple a its.toArray := p
    have nea : e ≠ a := ne_cls (T := "enumerate") (T' := "tuple") ⟨_, he, rfl⟩ pl.typeIs (by decide)
    have nia : a ≠ it := by
      obtain ⟨o, ho, hcl, hd⟩ := hit
      exact ne_cls (T := "tuple") (T' := "tuple_iterator") pl.typeIs ⟨o, ho, hcl⟩ (by decide)
    have hlt : i < its.toArray.size := by
      have := (List.getElem?_eq_some_iff.mp hu).1
      rw [List.size_toArray]; exact this
    refine wpAny_pyNext_enum_itemC (Draws.tuple (prog := X.prog) (w := X.w) (A := X.A.in1) (I.ok.hd hc) it a nia its.toArray) he ⟨hit, pl⟩ hlt hne (by simp [hne, nea]) fun y h' tk hy ho ⟨hit', _⟩ hT hsz hk => ?_
    have ey : y = u := by
      have : its.toArray[i]? = some u := by rw [List.getElem?_toArray]; exact hu
      rw [this] at hy
      exact (Option.some.inj hy).symm
    subst ey
    refine ⟨_, rfl, wpAny_letOwnedTupleGo_enum (s := { s with heap := h', toks := tk + 1 }) ho fun h'' he' sb => ?_⟩
    have hT2 : h''.get? s.heap.objs.size = some { cls := .type "tuple", data := .seq #[.int (i : Int) tk, y] } := (sb.2 _ (Nat.ne_of_gt hel)).trans hT
    have new : ObjOk X.prog X.w (upd H s.heap.objs.size (.tup [.int (i : Nat), x])) h'' s.heap.objs.size (.tup [.int (i : Nat), x]) :=
      ⟨by show 2 ≤ sizeLine; decide, [.int (i : Int) tk, y], .cons ⟨_, rfl⟩ (.cons ru .nil), ⟨_, hT2, rfl, _, rfl⟩⟩
    have I1 : Inv X pins σ (upd H s.heap.objs.size (.tup [.int (i : Nat), x])) { s with heap := h'', toks := tk + 1 } :=
      I.turnedNew (ch := [e, it]) (fun b ob hb q => (sb.2 b (fun z => hb (by simp [z]))).trans (hk b ob (fun z => hb (by simp [z])) (fun z => hb (by simp [z])) q)) hf (Nat.le_refl _) new
    refine ⟨.ref s.heap.objs.size, _, I1, rfl, ⟨_, x, rfl, I.hok.fresh (Nat.le_refl _), rfl, fun ys hy => by rw [I.tuple_inj hy hq]; exact hx⟩, ⟨⟨y, ?_⟩, hit'.at fun o q => (sb.2 it (Ne.symm hne)).trans q, hne⟩, fun b hb => ?_⟩
    · have e1 : ((i + 1 : Nat) : Int) = (i : Int) + 1 := by omega
      rw [e1]; exact he'
    · have hb' : b < s.heap.objs.size := by
        have e' : b = e ∨ b = it := by simpa using hb
        rcases e' with z | z
        · rw [z]; exact hel
        · rw [z]; exact hil
      rw [upd_ne (Nat.ne_of_lt hb')]
      exact (hf b hb).1
  done := by
    intro X hP hw hK hc i pins s σ H E I hf st hg
    subst hP hw hK
    obtain ⟨⟨old, he⟩, hit, hne⟩ := st
    obtain ⟨xs, hq, hx⟩ := hg
    obtain ⟨its, rv, p, hz⟩ := I.tuple hq
    obtain ⟨f0, f1, f2, f3, f4, f5⟩ := hf it (by simp)
    have hl := rv.length
    have pl : s.heap.IsTuple a its.toArray := p
    have nia : a ≠ it := by
      obtain ⟨o, ho, hcl, hd⟩ := hit
      exact ne_cls (T := "tuple") (T' := "tuple_iterator") pl.typeIs ⟨o, ho, hcl⟩ (by decide)
    subst hx
    exact wpAny_pyNext_enum_endD (i := (xs.length : Int)) (Draws.tuple (prog := X.prog) (w := X.w) (A := X.A.in1) (I.ok.hd hc) it a nia its.toArray) he (by rw [List.size_toArray, ← hl]; exact ⟨hit, pl⟩) fun h' eb => ⟨rfl, I.turned (t' := s.toks) (fun b o hb q => eb b o hb q) f0 f1 f3 f4 f5⟩
  self := fun A i s Q E st h => let ⟨⟨_, he⟩, _⟩ := st; wpAny_pyIter_enum he h
set_option maxHeartbeats 4000000 in
theorem meets_enumerate_newB1 {v : Value} {o : Obj} {H : Heap → Prop} (B : Begins v o H) :
    Meets (Builtin.«enumerate.__new__» ⟨[.type "enumerate", v], []⟩) (fun _ R s => H s.heap ∧
      R (.ok (.ret (.ref (s.heap.push o).objs.size))) { s with heap := (s.heap.push o).push { cls := .type "enumerate", data := .fields #[.none, .bool false, .ref s.heap.objs.size, rawInt 0, .none, .none] } }) :=
  .of_wp fun prog w A R s h => by
    obtain ⟨hp, g, d, tk, os⟩ := s; obtain ⟨h1, h⟩ := h
    have hsub := sub_enumerate
    have q1 : ∀ {A' : Around} {E : Value → Shared → Prop} {Q : Value → Shared → Prop}, Q (.ref hp.objs.size) ⟨hp.push o, g, d, tk, os⟩ → wpAny (model prog w) A' (pyIter v) Q E ⟨hp, g, d, tk, os⟩ :=
      fun q => B.iter prog w _ _ ⟨hp, g, d, tk, os⟩ _ h1 q
    wp_walk using q1
    refine wpAny_stack_any fun st => wpAny_pure ?_
    split
    · rename_i c _ _ _ _ _
      cases (c == Value.type "enumerate")
      · wp_walk using q1
        exact ⟨_, rfl, h⟩
      · wp_walk using q1
        exact ⟨_, rfl, h⟩
    · wp_walk using q1
      exact ⟨_, rfl, h⟩
theorem call_enumerate_tuple {prog : Program} {w : World} {A : Around} {E : Value → Shared → Prop} {s : Shared} {l : Addr} {items : Array Value} {Q : Value → Shared → Prop} (hL : s.heap.IsTuple l items)
    (h : ∀ h', IsEnum h' (s.heap.objs.size + 1) s.heap.objs.size 0 .none → h'.IsTupleIter s.heap.objs.size l 0 → h'.objs.size = s.heap.objs.size + 2 →
      (∀ b o, s.heap.get? b = some o → h'.get? b = some o) → Q (.ref (s.heap.objs.size + 1)) { s with heap := h' }) :
    wpAny (model prog w) A (call (.type "enumerate") [.ref l]) Q E s := by
  refine callType_new PySem.F.called_enumerate (by decide) (PySem.F.typeCall_enumerate_1 _) (PySem.F.newCall_enumerate_1 _) (fun obj => PySem.F.args_object_init_2 obj _) PySem.F.entry_enumerate_new
    (meets_enumerate_newB1 (begins_tuple l items)) ⟨hL, ?_⟩
  have hz : (s.heap.push { cls := .type "tuple_iterator", data := .fields #[.ref l, .int 0 0] }).objs.size = s.heap.objs.size + 1 := Heap.size_push ..
  show _ ∧ _
  rw [hz]
  have he : IsEnum ((s.heap.push { cls := .type "tuple_iterator", data := .fields #[.ref l, .int 0 0] }).push
      { cls := .type "enumerate", data := .fields #[.none, .bool false, .ref s.heap.objs.size, rawInt 0, .none, .none] }) (s.heap.objs.size + 1) s.heap.objs.size 0 .none := by
    have := Heap.get?_push_size (s.heap.push { cls := .type "tuple_iterator", data := .fields #[.ref l, .int 0 0] })
      (o := { cls := .type "enumerate", data := .fields #[.none, .bool false, .ref s.heap.objs.size, rawInt 0, .none, .none] }) rfl
    rw [hz] at this; exact this
  refine ⟨⟨_, he, rfl⟩, h _ he ⟨_, Heap.get?_push_of_some _ (Heap.get?_push_size _ rfl), rfl, rfl⟩ (by rw [Heap.size_push, hz]) fun b o x => Heap.get?_push_of_some _ (Heap.get?_push_of_some _ x)⟩
section
variable {X : Cx}
theorem callWith_typeK {M : Model} {A : Around} {E : Value → Shared → Prop} {s : Shared} {env : Env} {pos : Pos} {id : String} {e : Expr} {rest : List Expr} {kws : List Keyword} {Q : Value → Shared → Prop}
    (h : wpAny M A (spliced (backTo pos (starEach (e :: rest) env))) (fun vs s₁ => wpAny M A (evalAll ((backToKw pos (keywordEach kws env)).map (·.2)))
      (fun kvs s₂ => wpAny M A (call (.type id) vs (((backToKw pos (keywordEach kws env)).filterMap (·.1)).zip kvs)) Q E s₂) E s₁) E s)
    (he : backTo pos (starEach (e :: rest) env) = (false, eval e env) :: backTo pos (starEach rest env) := by rfl)
    (hplain : (backTo pos (starEach (e :: rest) env)).any (·.1) = false := by rfl)
    (hall : (backToKw pos (keywordEach kws env)).all (·.1.isSome) = true := by rfl)
    (hkw : (backToKw pos (keywordEach kws env)).any (·.1.isNone) = false := by rfl) :
    wpAny M A (callWith pos (.type id) [] (backTo pos (starEach (e :: rest) env)) (backToKw pos (keywordEach kws env))) Q E s := by
  have h2 : wpAny M A (evalArgs (.type id) true (backTo pos (starEach (e :: rest) env)) (backToKw pos (keywordEach kws env))) (fun a s₁ => wpAny M A (call (.type id) ([] ++ a.pos) a.kw) Q E s₁) E s := by
    rw [he] at h ⊢
    exact evalArgs_kwB hall h
  unfold callWith
  refine wpAny_bind (wpAny_holding (wpAny_mono h2 (fun a s₁ h₁ => wpAny_bind (wpAny_standAt ?_)) fun _ _ x => x))
  simp only [hplain, hkw, Bool.or_false]
  refine wpAny_bind (wpAny_pure ?_)
  exact wpAny_bind (wpAny_mono h₁ (fun r s₂ hr => wpAny_bind (wpAny_holding (wpAny_point (wpAny_pure hr)))) fun _ _ x => x)
def iEnumK (K : PySem.W.Frag) (ta : TA) (tk : TE) : TI := fun σ H R => ta σ H fun vs H1 => ∃ a xs, vs = [.ref a] ∧ SqL K H1 a xs ∧ tk σ H1 fun v H2 => ∃ k0 : Int, v = .int k0 ∧ -(2 ^ 62) ≤ k0 ∧ k0 < 2 ^ 62 ∧ SqL K H2 a xs ∧ R (IteK K a k0) H2
theorem pi_enumK {e ek : Expr} {ta : TA} {tk : TE} {p pos kpos tpos : Pos} {elts : List Expr} {kk : Nat} (hg : Gl X "enumerate") (hm : X.mg "enumerate" = none) (ha : PA X [e] ta) (hk : PE X ek tk) (hs : backTo pos (starEach [e] X.env) = (false, eval e X.env) :: backTo pos (starEach [] X.env) := by rfl)
    (hpl : (backTo pos (starEach [e] X.env)).any (·.1) = false := by rfl) :
    PI X (.Tuple elts kk tpos) (.Call (.Name "enumerate" p) [e] [⟨some "start", ek, kpos⟩] pos) (iEnumK X.K ta tk) := by
  refine ⟨fun pins s σ H R I h => ?_⟩
  refine wpAny_Call_Name_kw (ld_blt I hg hm (u := .type "enumerate") boot_enumerate ?_ (by decide) (by decide))
  refine callWith_typeK (thn (ha.run pos pins s σ H _ I h) fun us s1 ⟨vs, H1, I1, r1, a, xs, ev, hq, q1⟩ => ?_) hs hpl (by rfl) (by rfl)
  subst ev
  obtain ⟨u, rfl, ru⟩ := vals1 r1
  obtain rfl : u = Value.ref a := ru
  show wpAny _ _ (evalAll ((do let v ← eval ek X.env; standAt pos; pure v) :: [])) _ _ s1
  refine wpAny_evalAll_cons (wpAny_bind (thn (hk.run pins s1 σ H1 _ I1 q1) fun v s2 ⟨y, H2, I2, ry, k0, ey, hk0, hk1, hq2, q2⟩ => wpAny_bind (wpAny_standAt (wpAny_pure (wpAny_evalAll_nil ?_)))))
  subst ey
  obtain ⟨t, rfl⟩ := ry
  obtain ⟨its, rv, p', hz⟩ := I2.list hq2
  show wpAny _ _ (call (.type "enumerate") [.ref a] [(Str.ofString "start", .int k0 t)]) _ _ s2
  refine enum_begins_start (begins_list a its.toArray) p'.isList (by omega) (by omega) fun h' he hit hsz hkk => wpAny_pyIter_enum he ?_
  have I3 : Inv X pins σ H2 { s2 with heap := h' } := I2.kept (t' := s2.toks) hkk
  refine ⟨s2.heap.objs.size + 1, [s2.heap.objs.size + 1, s2.heap.objs.size], _, _, H2, rfl, I3, turn_enumK a (s2.heap.objs.size + 1) s2.heap.objs.size k0, ⟨⟨.none, by simpa using he⟩, ⟨_, hit, rfl, rfl⟩, Nat.succ_ne_self _⟩, fun b hb => ?_, q2⟩
  have hle : s2.heap.objs.size ≤ b := by
    have e' : b = s2.heap.objs.size + 1 ∨ b = s2.heap.objs.size := by simpa using hb
    rcases e' with z | z
    · rw [z]; exact Nat.le_add_right _ _
    · rw [z]; exact Nat.le_refl _
  exact I2.fpOk hle (I2.hok.fresh hle)
def iEnumT (K : PySem.W.Frag) (ta : TA) : TI := fun σ H R => ta σ H fun vs H1 => ∃ a xs, vs = [.ref a] ∧ SqT K H1 a xs ∧ R (IteT K a) H1
theorem pi_enumT {e : Expr} {ta : TA} {p pos tpos : Pos} {elts : List Expr} {kk : Nat} (hg : Gl X "enumerate") (hm : X.mg "enumerate" = none) (ha : PA X [e] ta) (hs : starEach [e] X.env = [(false, eval e X.env)] := by rfl) :
    PI X (.Tuple elts kk tpos) (.Call (.Name "enumerate" p) [e] [] pos) (iEnumT X.K ta) := by
  refine ⟨fun pins s σ H R I h => ?_⟩
  refine Call_ (ld_blt I hg hm boot_enumerate (PyProof.Rows.callWith_type1 (thn (ha.run pos pins s σ H _ I h) fun us s1 ⟨vs, H1, I1, r1, q1⟩ => ?_) hs rfl))
  obtain ⟨a, xs, rfl, hq, q⟩ := q1
  obtain ⟨u, rfl, ru⟩ := vals1 r1
  obtain rfl : u = Value.ref a := ru
  obtain ⟨its, rv, p', hz⟩ := I1.tuple hq
  refine call_enumerate_tuple (show s1.heap.IsTuple a its.toArray from p') fun h' he hit hsz hk => wpAny_pyIter_enum he ?_
  have I2 : Inv X pins σ H1 { s1 with heap := h' } := I1.kept (t' := s1.toks) hk
  refine ⟨s1.heap.objs.size + 1, [s1.heap.objs.size + 1, s1.heap.objs.size], _, _, H1, rfl, I2, turn_enumT a (s1.heap.objs.size + 1) s1.heap.objs.size, ⟨⟨.none, he⟩, hit, Nat.succ_ne_self _⟩, fun b hb => ?_, q⟩
  have hle : s1.heap.objs.size ≤ b := by
    have e' : b = s1.heap.objs.size + 1 ∨ b = s1.heap.objs.size := by simpa using hb
    rcases e' with z | z
    · rw [z]; exact Nat.le_add_right _ _
    · rw [z]; exact Nat.le_refl _
  exact I1.fpOk hle (I1.hok.fresh hle)
end
end Vf

set_option maxRecDepth 100000
set_option maxHeartbeats 4000000
namespace Vf
open PySem PySem.Spec PyProof.Rows L2 SX LamX
/-! ### {k: v}, k a tuple -/
section
variable {X : Cx}
theorem d_dictSetT {pins : List (Addr × Obj)} {σ : L2.St} {H H' : Hp} {s : Shared} {A : Around} {E : Value → Shared → Prop} {a : Addr} {y v : V} {u r : Value} {Q : Unit → Shared → Prop} (hu : A.units < cLine) (I : Inv X pins σ H s)
    (g : ∃ (kvs : List (List Key × V)) (k : List Key) (b : Addr), H a = some (.dT kvs) ∧ y = .ref b ∧ H b = some (.tup (k.map kV)) ∧ kvs.length < sizeLine ∧ H' = upd H a (.dT (putK kvs k v))) (ry : RelV y u) (rv : RelV v r) (h : ∀ s', Inv X pins σ H' s' → Q () s') :
    wpAny (model X.prog X.w) A (dictSet a u r) Q E s := by
  obtain ⟨kvs, k, b, e, ey, eb, l, eH⟩ := g
  subst ey eH
  cases (show u = Value.ref b from ry)
  obtain ⟨z, hd, xs, rel, dd⟩ := dt_of I.hok e
  have hz : xs.length ≤ sizeLine := by rw [← Paired.length rel]; exact z
  have hl : (putK kvs k v).length ≤ sizeLine := by have := length_putK kvs k v; omega
  refine wpAny_dictSet_heap (hsz := hz) (knd := tupleKind (mixKind X.prog X.w)) hu (key_of I.hok eb) dd fun h' dd' hs => h _ ?_
  obtain ⟨q, es, ep, hq, h2, h3, h4, _, h5⟩ := dd'
  refine d_write I (by rw [e]; exact True.intro) hs ⟨q, hq⟩ ⟨hl, hd, _, (rel.put k eb rv).keeps fun c ys ec => ?_, q, es, ep, hq, h2, h3, h4, h5⟩
  rw [upd_ne (ne_of ec e (fun z => nomatch z))]
  exact ec
def tDispT1 (tk tv : TE) : TE := fun σ H Q => ∀ p, H p = none → tk σ (upd H p (.dT [])) fun x H1 => tv σ H1 fun y H2 => ∃ (k : List Key) (b : Addr), H2 p = some (.dT []) ∧ x = .ref b ∧ H2 b = some (.tup (k.map kV)) ∧ Q (.ref p) (upd H2 p (.dT [(k, y)]))
theorem pe_dispT1 {pos : Pos} {k v : Expr} {tk tv : TE} (hu : X.A.units < cLine) (hk : PE X k tk) (hv : PE X v tv) : PE X (.Dict [some k] [v] pos) (tDispT1 tk tv) := by
  refine ⟨fun pins s σ H Q I q => ?_⟩
  have hn := I.hok.fresh (Nat.le_refl s.heap.objs.size)
  have I1 := I.laid (a := s.heap.objs.size) (o := .dT []) (h' := s.heap.push { cls := .type "dict", data := .dict #[] }) (t' := s.toks) (fun _ _ q => Heap.get?_push_of_some _ q) (Nat.le_refl _) (dt_empty s.heap I.big)
  refine wpAny_Dict_any (by rfl) (by rfl) (by simp) (by show 1 ≤ 15; decide) (thn ((pps_cons hk hv (pps_nil (X := X) (pos := pos))).run pins _ σ _ (fun ps H2 => ∃ x y, ps = [(x, y)] ∧ ∃ (k : List Key) (b : Addr), H2 s.heap.objs.size = some (.dT []) ∧ x = .ref b ∧ H2 b = some (.tup (k.map kV)) ∧ Q (.ref s.heap.objs.size) (upd H2 s.heap.objs.size (.dT [(k, y)]))) I1 ?_) fun ws s2 ⟨ps, H2, I2, rel, x, y, eps, kk, b, e, ex, eb, q2⟩ => ?_)
  · have q' := q _ hn
    have mono : ∀ {t : TE} {σ : L2.St} {H : Hp} {Q Q' : VK}, t σ H Q → Q = Q' → t σ H Q' := fun h e => e ▸ h
    show tk σ _ fun x H1 => tv σ H1 fun y H2 => _
    refine mono q' ?_
    funext x H1
    refine congrArg _ ?_
    funext y H2
    refine propext ⟨fun ⟨k, b, h⟩ => ⟨x, y, rfl, k, b, h⟩, fun ⟨x', y', e, k, b, h⟩ => ?_⟩
    cases e
    exact ⟨k, b, h⟩
  · subst eps
    cases rel with
    | cons h t =>
      cases t
      rename_i pr
      obtain ⟨u, r⟩ := pr
      unfold storeAll
      rw [List.forIn_cons]
      refine wpAny_bind (wpAny_bind (d_dictSetT (H' := upd H2 s.heap.objs.size (.dT (putK [] kk y))) (by show X.A.units < cLine; exact hu) I2 ⟨[], kk, b, e, ex, eb, by decide, rfl⟩ h.1 h.2 fun s3 I3 => wpAny_pure ?_))
      show wpAny _ _ (forIn [] PUnit.unit _) _ _ s3
      rw [List.forIn_nil]
      exact wpAny_pure ⟨.ref s.heap.objs.size, _, I3, rfl, q2⟩
end
end Vf

set_option maxRecDepth 100000
set_option maxHeartbeats 4000000
namespace Vf
open PySem PySem.Spec PyProof.Rows L2 SX LamX
/-! ### len(o) by an own __len__ -/
structure OwnM (K : PySem.W.Frag) (C : Addr) (m : Str) (f : Addr) : Prop where
  hs : PySem.W.findIn K (.ref C) m = some (some (.ref f))
  hf : PySem.W.isFn K (.ref f) = true
section
variable {X : Cx} {C f : Addr} {fd : FuncData} {ps : List Str} {k j : Nat} {sp : Sp}
def rLenO (C : Addr) (sp : Sp) : List V → Hp → VK → Prop := fun xs H Q => ∃ (a dx : Addr) (fs : List (Str × V)), xs = [.ref a] ∧ H a = some (.ins C dx fs) ∧ sp [.ref a] H (fun v H' => ∃ n : Nat, v = .int (n : Int) ∧ n < 1000000 ∧ Q (.int (n : Int)) H') (fun _ _ _ => False)
theorem call_lenO (O : OwnM X.K C "__len__" f) (F : FnOk X.prog X.w X.K X.mg X.base C8.CX0 k f fd ps sp) (hb : Binds X.K fd ps []) (hr : Room j X.A) (hj : k + 1 ≤ j) : CallR X (.builtin "len") (rLenO C sp) := by
  intro pins s σ H xs us Q I r h
  obtain ⟨a, dx, fs, rfl, ha, hsp⟩ := h
  obtain ⟨u, rfl, ru⟩ := vals1 r
  cases ru
  obtain ⟨mA, J, _⟩ := ins_get I.hok ha
  obtain ⟨od, J, _⟩ := J.look
  have e0 : Env0 X.prog X.w X.K X.mg X.base X.A.in1 X.stack s H := by
    have e := I.env0
    exact ⟨e.frames, e.mod, e.bs, e.bsz, e.funs, e.frf, e.hok, e.bare⟩
  have hl := F.len _ _ _ _ hsp
  have run := F.run X.A.in1 X.stack s H ⟨[.ref a], []⟩ [.ref a] [.ref a] _ (fun _ _ _ => False) ((hr.mono hj).in1) e0 (by
    have := hb s [.ref a] I.kIn (by simpa using hl)
    simpa using this) (.cons rfl .nil) hsp
  refine Calls.call_function_entry kind_len plain_len entry_len (args_len1 _) ?_
  unfold Builtin.«len»
  refine wpAny_bind (m := oneArg "len" _) (wpAny_pure ?_)
  refine wpAny_bind (m := callSpecial? (.ref a) (Str.ofString "__len__")) (PySem.W.special_fn (name := "__len__") (args := []) I.kIn J O.hs (beq_iff_eq.mp O.hf) (wpAny_call (codeAny_mono run fun z s' hz => ?_)))
  cases z with
  | error e => exact pass0 _ _ _ _ _ _ I hz
  | ok fl =>
    cases fl with
    | ret u =>
      obtain ⟨v, H', I1, rv, n, rfl, hn, q⟩ := I.after hz
      obtain ⟨t, rfl⟩ := rv
      refine wpAny_bind (wpAny_holding (wpAny_pure ?_))
      refine wpAny_bind (wpAny_letGo ?_)
      show wpAny _ _ (if (n : Int) < 0 then _ else _) _ _ _
      rw [if_neg (by omega)]
      show wpAny _ _ (if (n : Int) ≥ 2 ^ 63 then _ else _) _ _ _
      rw [if_neg (by omega)]
      refine wpAny_bind (wpAny_mkInt (wpAny_pure ⟨_, rfl, .int (n : Int), H', I1.tok _, ⟨_, rfl⟩, q⟩))
    | next => exact False.elim hz
    | brk => exact False.elim hz
    | cont => exact False.elim hz
end
/-! ### for x in o by an own __iter__ that returns iter(self.f), a tuple -/
/-- at it an iterator over the tuple at l, the next place is i -/
def tiObj (l : Addr) (i : Nat) : Obj := { cls := .type "tuple_iterator", data := .fields #[.ref l, .int (i : Int) 0] }
def ItT (l it : Addr) (i : Nat) : HO := .ext fun h => h.get? it = some (tiObj l i)
theorem itT_ok {P : Program} {w : World} {H : Hp} {h : Heap} {l it : Addr} {i : Nat} (e : h.get? it = some (tiObj l i)) : ObjOk P w H h it (ItT l it i) := ⟨e, ⟨_, e⟩, fun h1 h2 q k => k _ q⟩
section
variable {X : Cx}
def rIterT (K : PySem.W.Frag) (n : Nat) : List V → Hp → VK → Prop := fun xs H Q => ∃ (l : Addr) (zs : List V), xs = [.ref l] ∧ SqT K H l zs ∧ ∀ it, H it = none → n ≤ it → Q (.ref it) (upd H it (ItT l it 0))
theorem call_iterT : CallR X (.builtin "iter") (rIterT X.K X.s_0.heap.objs.size) := by
  intro pins s σ H xs us Q I r h
  obtain ⟨l, zs, rfl, hq, q⟩ := h
  obtain ⟨u, rfl, ru⟩ := vals1 r
  cases ru
  obtain ⟨its, rv, pl, hz⟩ := I.tuple hq
  refine Calls.call_function_entry (by decide +kernel) (by decide +kernel) PySem.W.kdk_entry_iter (PySem.W.kdk_args_iter _) ?_
  unfold Builtin.«iter»
  refine wpAny_bind (m := someArgs "iter" 1 2 _) (wpAny_of_eq (a := [Value.ref l]) (by first | rfl | kernel_rfl!) ?_)
  show wpAny _ _ (pyIter (.ref l) >>= _) _ _ _
  refine wpAny_bind (wpAny_pyIter_tuple (show s.heap.IsTuple l its.toArray from pl) ?_)
  refine wpAny_pure ⟨_, rfl, ?_⟩
  exact ⟨.ref s.heap.objs.size, _, I.laid (t' := s.toks) (fun b u e => Heap.get?_push_of_some _ e) (Nat.le_refl _) (itT_ok (Heap.get?_push_size _ rfl)), rfl, q _ (I.hok.fresh (Nat.le_refl _)) I.sz⟩
end
/-- a def with a promise that knows how large the heap was when it was called -/
structure FnN (P : Program) (w : World) (K : PySem.W.Frag) (mg : Str → Option Value) (base : Heap) (k : Nat) (f : Addr) (fd : FuncData) (ps : List Str) (sp : Nat → Sp) : Prop where
  len : ∀ n vs H Q E, sp n vs H Q E → vs.length = ps.length
  run : ∀ (A : Around) (outer : List Env) (s : Shared) (H : Hp) (args : Args) (us : List Value) (vs : List V) (Q : VK), Room k A → Env0 P w K mg base A outer s H → BindsTo s fd args (ps.zip us) → Vals vs us → sp s.heap.objs.size vs H Q noE →
    codeAny (model P w) A (.call (.ref f) args) (CR C8.CX0 outer P w H s Q noE) s
theorem fnN_of {P : Program} {w : World} {K : PySem.W.Frag} {mg : Str → Option Value} {base : Heap} {x q : Str} {st : Stmt} {f : Addr} {fd : FuncData} {N ps : List Str} {k : Nat} {sp : Nat → Sp} (F : C8.Fun K x q st f fd)
    (S : FnScope N ps (C8.fnScope st)) (len : ∀ n vs H Q E, sp n vs H Q E → vs.length = ps.length)
    (hb : ∀ (c : Value) (A : Around) (out : List Env) (s : Shared) (H : Hp) (vs : List V) (Q : VK), Room k (A.deeper (envOfC q (C8.fnScope st) s.heap.objs.size f c)) → sp s.heap.objs.size vs H Q noE →
      ∃ t, PSs (cxOf C8.CX0 P w K mg base N q (C8.fnScope st) f c A out s H noE).nox (C8.fnBody st) t ∧ t { nx := fun _ h => Q .non h, rt := Q } (start N vs) H) :
    FnN P w K mg base (k + 1) f fd ps sp := by
  obtain ⟨oc, od, dV, kV, dc, pm, an, c, ct, sl, rfl, lk, hc⟩ := F.ex
  refine ⟨len, fun A out s H g us vs Q hr e0 hbind r hsp => ?_⟩
  have hn := len _ _ _ _ _ hsp
  have KX : K.In s.heap := e0.mod.kin.keeps fun _ _ z => keeps_of e0 z
  have lim := e0.mod.nolimit.keeps (h' := s.heap) fun _ _ z => keeps_of e0 z
  refine codeAny_call_function hr.depth (KX _ _ lk) rfl S.co S.gen rfl (PySem.W.codeRec_of KX hc) (hbind _ _ _ _ ?_)
  refine wpAny_newFunctionEnv_cells S.kind (fun y hy => ?_) fun env he s1 x1 => ?_
  · rcases S.par y.1 (List.of_mem_zip hy).1 with z | z
    · exact Or.inl z
    · exact Or.inr ⟨z, PySem.W.cellsFrom_some _ _ _ (Or.inl z)⟩
  · subst he
    refine ⟨lim.keeps x1.toInCall.keep, codeAny_func ?_⟩
    obtain ⟨t, ht, hq⟩ := hb c A out s H vs Q (hr.deeper _) hsp
    refine wpAny_mono (ht.nox.run [] s1 (start N vs) H _ (inv_start S hr.hd e0 hn r x1) hq) (fun fl s' hs => ?_) (fun _ _ hs => hs)
    rcases fl with u | _ | _ | _
    all_goals first
      | exact (by obtain ⟨v, σ', H', J, rv, z⟩ := hs; exact ⟨v, H', J.os, J.bare, J.base, J.hok, rv, z⟩)
      | exact (by obtain ⟨σ', H', J, z⟩ := hs; exact ⟨V.non, H', J.os, J.bare, J.base, J.hok, rfl, z⟩)
      | exact (by obtain ⟨_, _, _, z⟩ := hs; exact z.elim)
def spIterT (K : PySem.W.Frag) (C : Addr) (g : Str) : Nat → Sp := fun n vs H Q _ => ∃ (a dx t : Addr) (fs : List (Str × V)) (xs : List V), vs = [.ref a] ∧ H a = some (.ins C dx fs) ∧ fs.lookup g = some (.ref t) ∧ SqT K H t xs ∧ ∀ it, H it = none → n ≤ it → Q (.ref it) (upd H it (ItT t it 0))
section
variable {X : Cx} {C f : Addr} {fd : FuncData} {ps : List Str} {k j : Nat} {g : Str} {tg : Expr}
/-- for x in o -/
def iOwnT (K : PySem.W.Frag) (C : Addr) (g : Str) (te : TE) : TI := fun σ H R => te σ H fun v H1 => ∃ (a dx t : Addr) (fs : List (Str × V)) (xs : List V), v = .ref a ∧ H1 a = some (.ins C dx fs) ∧ fs.lookup g = some (.ref t) ∧ SqT K H1 t xs ∧ R (Itt K t) H1
theorem pi_ownT {e : Expr} {te : TE} (he : PE X e te) (O : OwnM X.K C "__iter__" f) (F : FnN X.prog X.w X.K X.mg X.base k f fd ps (spIterT X.K C g)) (hb : Binds X.K fd ps []) (hr : Room j X.A) (hj : k ≤ j) : PI X tg e (iOwnT X.K C g te) := by
  refine ⟨fun pins s σ H R I h => ?_⟩
  refine thn (he.run pins s σ H _ I h) fun v s1 ⟨x, H1, I1, r1, a, dx, t, fs, xs, ex, ha, hg, hq, q⟩ => ?_
  subst ex
  cases r1
  obtain ⟨mA, J, _⟩ := ins_get I1.hok ha
  obtain ⟨od, J, _⟩ := J.look
  obtain ⟨m, hF⟩ := I1.fr
  have hsp : spIterT X.K C g s1.heap.objs.size [.ref a] H1 (fun v H' => ∃ it, v = .ref it ∧ H1 it = none ∧ s1.heap.objs.size ≤ it ∧ H' = upd H1 it (ItT t it 0)) noE := ⟨a, dx, t, fs, xs, rfl, ha, hg, hq, fun it h1 h2 => ⟨it, rfl, h1, h2, rfl⟩⟩
  have hl := F.len _ _ _ _ _ hsp
  refine PySem.W.owit_iter hF I1.ok.mod.kin J O.hs O.hf ?_
  have run := F.run X.A X.stack s1 H1 ⟨[.ref a], []⟩ [.ref a] [.ref a] _ (hr.mono hj) I1.env0 (by
    have := hb s1 [.ref a] I1.kIn (by simpa using hl)
    simpa using this) (.cons rfl .nil) hsp
  refine wpAny_call (codeAny_mono run fun z s' hz => ?_)
  cases z with
  | error e => exact pass0 _ _ _ _ _ _ I1 hz
  | ok fl =>
    cases fl with
    | ret u =>
      obtain ⟨v, H', I2, rv, it, rfl, hn, hle, eH⟩ := I1.after hz
      subst eH
      obtain rfl : u = Value.ref it := rv
      have ho : s'.heap.get? it = some (tiObj t 0) := (I2.hok it _ upd_same).1
      have hit : s'.heap.IsTupleIter it t 0 := ⟨_, ho, rfl, rfl⟩
      unfold PySem.W.OwitIt
      refine wpAny_specialOf (name := Str.ofString "__next__") hit.typeIs PySem.F.slot_tuple_iterator_next.lookup ?_
      have e2 : upd H1 it (ItT t it 0) it = some (.ext fun h => h.get? it = some (tiObj t 0)) := upd_same
      have hy : X.s_0.heap.objs.size ≤ it := Nat.le_trans I1.sz hle
      have I3 := ItX.inv_drop I2 e2
      have fp := ItX.inv_fp I2 e2 hy
      rw [ItX.dropH_upd hn] at I3 fp
      refine ⟨it, [it], _, _, H1, rfl, I3, turn_tuple t it, hit, fun b hb => ?_, q⟩
      have e : b = it := by simpa using hb
      rw [e]
      exact fp
    | next => exact False.elim hz
    | brk => exact False.elim hz
    | cont => exact False.elim hz
end
end Vf

set_option maxRecDepth 100000
set_option maxHeartbeats 4000000
namespace Vf
open PySem PySem.Spec PyProof.Rows L2 SX LamX
/-! ### C(e, ..) whose __init__ may raise -/
structure MakX (P : Program) (w : World) (K : PySem.W.Frag) (mg : Str → Option Value) (base : Heap) (k : Nat) (x : Str) (C : Addr) (sp : Sp) : Prop where
  ex : ∃ (f : Addr) (fd : FuncData) (ps : List Str), Mk K C f ∧ FnOk P w K mg base (L2.CX P w) k f fd ps sp ∧ mg x = some (.ref C) ∧ Binds K fd ps []
theorem makX {P : Program} {w : World} {K : PySem.W.Frag} {mg : Str → Option Value} {base : Heap} {x qual : Str} {C : Addr} {st : Stmt} {f : Addr} {fd : FuncData} {N ps : List Str} {k : Nat} {sp : Sp} (M : Mk K C f) (hm : mg x = some (.ref C)) (F : C8.Fun K "__init__" qual st f fd) (b : Binds K fd ps []) (S : FnScope N ps (C8.fnScope st)) (len : ∀ vs H Q E, sp vs H Q E → vs.length = ps.length)
    (hb : ∀ (c : Value) (A : Around) (outer : List Env) (s : Shared) (H : Hp) (vs : List V) (Q : VK) (E : XK), Room k (A.deeper (envOfC qual (C8.fnScope st) s.heap.objs.size f c)) → sp vs H Q E →
      ∃ t, PSs (cxOf (L2.CX P w) P w K mg base N qual (C8.fnScope st) f c A outer s H E) (C8.fnBody st) t ∧ t { nx := fun _ h => Q .non h, rt := Q } (start N vs) H) : MakX P w K mg base (k + 1) x C sp :=
  ⟨f, fd, ps, M, fnX F S len hb, hm, b⟩
section
variable {X : Cx} {k j : Nat} {x : Str} {C f : Addr} {fd : FuncData} {ps : List Str} {sp : Sp} {p pos : Pos} {e : Expr} {es : List Expr} {t : TA} {W : WX} {CX : CXT} {E : XK}
theorem run_makeS {pins : List (Addr × Obj)} {σ : L2.St} {H : Hp} {s : Shared} {Q : VK} {us : List Value} {vs : List V} (M : Mk X.K C f) (F : FnOk X.prog X.w X.K X.mg X.base CX k f fd ps sp) (hr : Room (k + 1) X.A) (hb : Binds X.K fd ps [])
    (hx : PassesAt CX X σ E) (I : Inv X pins σ H s) (r : Vals vs us)
    (h : ∀ x dx, H x = none → H dx = none → dx ≠ x → sp (.ref x :: vs) (upd (upd H dx (.own x)) x (.ins C dx [])) (fun v H2 => v = .non ∧ Q (.ref x) H2) E) :
    wpAny (model X.prog X.w) X.A (call (.ref C) us) (EP X pins σ Q) X.xe s := by
  have hq := h (s.heap.objs.size + 1) s.heap.objs.size (I.hok.fresh (Nat.le_succ _)) (I.hok.fresh (Nat.le_refl _)) (Nat.ne_of_lt (Nat.lt_succ_self _))
  have I2 := Inv.made (C := C) I
  have r2 : Vals (V.ref (s.heap.objs.size + 1) :: vs) (Value.ref (s.heap.objs.size + 1) :: us) := .cons rfl r
  have hl : (Value.ref (s.heap.objs.size + 1) :: us).length = ps.length := by
    have e := r2.length
    rw [F.len _ _ _ _ hq] at e
    exact e.symm
  refine wpAny_call (make_map (f := f) I.kIn M.makes M.init (beq_iff_eq.mp M.fn) (codeAny_mono (F.run _ X.stack _ _ ⟨Value.ref (s.heap.objs.size + 1) :: us, []⟩ (Value.ref (s.heap.objs.size + 1) :: us) _ _ E (hr.make C us [])
    (I2.env0.make C us []) (by
      have := hb ⟨_, _, _, _, _⟩ (Value.ref (s.heap.objs.size + 1) :: us) I2.kIn (by rw [List.append_nil]; exact hl)
      simpa using this) r2 hq) fun r s' hq' => ?_))
  cases r with
  | error e => exact hx pins _ _ e s' I2 hq'
  | ok fl =>
    cases fl with
    | ret u =>
      obtain ⟨v, H', I3, rv, ev, q3⟩ := I2.after hq'
      subst ev
      exact ⟨rv, ⟨V.ref (s.heap.objs.size + 1), H', I3, rfl, q3⟩⟩
    | next => exact False.elim hq'
    | brk => exact False.elim hq'
    | cont => exact False.elim hq'
def tMakeS (C : Addr) (sp : Sp) (E : L2.St → XK) (t : TA) : TE := fun σ H Q => t σ H fun vs H1 => ∀ x dx, H1 x = none → H1 dx = none → dx ≠ x → sp (.ref x :: vs) (upd (upd H1 dx (.own x)) x (.ins C dx [])) (fun v H2 => v = .non ∧ Q (.ref x) H2) (E σ)
theorem pe_mkX (c : MakX X.prog X.w X.K X.mg X.base k x C sp) (hr : Room j X.A) (hk : k + 1 ≤ j) (hg : Gl X x) (tk : Takes X W) (ha : PA X (e :: es) t)
    (hdb : (x == ("__debug__" : Str)) = false := by decide) (he : starEach (e :: es) X.env = (false, eval e X.env) :: starEach es X.env := by rfl) (hpl : (backTo pos (starEach es X.env)).any (·.1) = false := by rfl) :
    PE X (.Call (.Name x p) (e :: es) [] pos) (tMakeS C sp (WE W) t) := by
  obtain ⟨f, fd, ps, M, F, hm, b⟩ := c.ex
  refine ⟨fun pins s σ H Q I h => ?_⟩
  refine wpAny_Call_Name_kw (ld_glob I hg hm ?_ hdb)
  refine PySem.W.callWith_K (h₀ := X.base) I.ok.mod.kin M.kp (thn (ha.run pos pins s σ H _ I h) fun us s1 ⟨vs, H1, I1, r, q⟩ => ⟨I1.kIn, ?_⟩) he hpl
  exact run_makeS M F (hr.mono hk) b (passAt tk σ) I1 r q
theorem pe_mkX0 (c : MakX X.prog X.w X.K X.mg X.base k x C sp) (hr : Room j X.A) (hk : k + 1 ≤ j) (hg : Gl X x) (ha : PA X (e :: es) t)
    (hdb : (x == ("__debug__" : Str)) = false := by decide) (he : starEach (e :: es) X.env = (false, eval e X.env) :: starEach es X.env := by rfl) (hpl : (backTo pos (starEach es X.env)).any (·.1) = false := by rfl) :
    PE X (.Call (.Name x p) (e :: es) [] pos) (tMake C sp [] E0 t) := by
  obtain ⟨f, fd, ps, M, F, hm, b⟩ := c.ex
  exact pe_make M F (hr.mono hk) hg hm b .nil passL ha hdb he hpl
end
end Vf

set_option maxRecDepth 100000
set_option maxHeartbeats 4000000
namespace Vf
open PySem PySem.Spec PyProof.Rows L2 SX LamX
/-! ### a dict with tuples as keys, tracked or written ones, whatever its values -/
abbrev Ent : Type := List Key × Addr × Value
def DX (P : Program) (w : World) (a : Addr) (xs : List Ent) : HO := .ext fun h => (a == sysModules) = false ∧ ∃ o es ep, h.get? a = some o ∧ o.ExactDict ∧ o.data = .dict es ep ∧ es.toList = xs.map (entryOfKey (tupleKind (mixKind P w))) ∧ (xs.map (·.1)).Nodup
def EntsAt (K : PySem.W.Frag) (H : Hp) (xs : List Ent) : Prop := ∀ q ∈ xs, SqT K H q.2.1 (q.1.map kV)
theorem dx_ok {P : Program} {w : World} {H : Hp} {h : Heap} {a : Addr} {xs : List Ent} (n : (a == sysModules) = false) (e : ∃ o es ep, h.get? a = some o ∧ o.ExactDict ∧ o.data = .dict es ep ∧ es.toList = xs.map (entryOfKey (tupleKind (mixKind P w))) ∧ (xs.map (·.1)).Nodup) : ObjOk P w H h a (DX P w a xs) := by
  refine ⟨⟨n, e⟩, ?_, fun h1 h2 q k => ?_⟩
  · obtain ⟨o, _, _, ho, _⟩ := e; exact ⟨o, ho⟩
  · obtain ⟨n, o, es, ep, ho, r⟩ := q
    exact ⟨n, o, es, ep, k o ho, r⟩
theorem key_seq {X : Cx} {pins : List (Addr × Obj)} {σ : L2.St} {H : Hp} {s : Shared} {b : Addr} {ks : List Key} (I : Inv X pins σ H s) (e : SqT X.K H b (ks.map kV)) : (tupleKind (mixKind X.prog X.w)).is s.heap ks b := by
  obtain ⟨its, r, p, hz⟩ := I.tuple e
  obtain ⟨o, h1, h2, n, h3⟩ := (show s.heap.IsTuple b its.toArray from p)
  exact ⟨o, its.toArray, n, h1, h2, h3, by simpa using items_are r⟩
section
variable {X : Cx}
theorem dx_dict {pins : List (Addr × Obj)} {σ : L2.St} {H : Hp} {s : Shared} {a : Addr} {xs : List Ent} (I : Inv X pins σ H s) (h : H a = some (DX X.prog X.w a xs)) (hx : EntsAt X.K H xs) : (a == sysModules) = false ∧ s.heap.DictOfH (tupleKind (mixKind X.prog X.w)) a xs := by
  obtain ⟨⟨n, o, es, ep, h1, h2, h3, h4, h5⟩, _⟩ := (show ObjOk X.prog X.w H s.heap a (DX X.prog X.w a xs) from I.hok a _ h)
  exact ⟨n, o, es, ep, h1, h2, h3, h4, fun x hx' => key_seq I (hx x hx'), h5⟩
theorem ents_stored {K : PySem.W.Frag} {H : Hp} {xs : List Ent} {k : List Key} {b : Addr} {u : Value} (h : EntsAt K H xs) (hb : SqT K H b (k.map kV)) : EntsAt K H (storedH xs k b u) := fun q hq => by
  rcases mem_storedH_key hq with ⟨y, hy, e1, e2⟩ | ⟨e1, e2⟩
  · rw [e1, e2]; exact h y hy
  · rw [e1, e2]; exact hb
/-- no code object stands there -/
def NoCode (H : Hp) (a : Addr) : Prop := ∀ c q, H c = some (CodeO c q) → c ≠ a
theorem dx_nocode {pins : List (Addr × Obj)} {σ : L2.St} {H : Hp} {s : Shared} {a : Addr} {xs : List Ent} (I : Inv X pins σ H s) (h : H a = some (DX X.prog X.w a xs)) : NoCode H a := fun c q e z => by
  obtain ⟨⟨_, o, es, ep, h1, _, h3, _⟩, _⟩ := (show ObjOk X.prog X.w H s.heap a (DX X.prog X.w a xs) from I.hok a _ h)
  obtain ⟨⟨oc, vs, t, g1, g2, _⟩, _⟩ := (show ObjOk X.prog X.w H s.heap c (CodeO c q) from I.hok c _ e)
  rw [z, h1] at g1
  cases g1
  rw [h3] at g2
  cases g2
/-- {k: v} -/
def tDispX (P : Program) (w : World) (K : PySem.W.Frag) (tk tv : TE) : TE := fun σ H Q => ∀ p, H p = none → tk σ (upd H p (DX P w p [])) fun x H1 => tv σ H1 fun y H2 => ∃ (k : List Key) (b : Addr), H2 p = some (DX P w p []) ∧ x = .ref b ∧ SqT K H2 b (k.map kV) ∧ ∀ u : Value, NoCode H2 p → Q (.ref p) (upd H2 p (DX P w p [(k, b, u)]))
theorem pe_dispX {pos : Pos} {k v : Expr} {tk tv : TE} (hu : X.A.units < cLine) (hk : PE X k tk) (hv : PE X v tv) : PE X (.Dict [some k] [v] pos) (tDispX X.prog X.w X.K tk tv) := by
  refine ⟨fun pins s σ H Q I q => ?_⟩
  have hn := I.hok.fresh (Nat.le_refl s.heap.objs.size)
  have big : (s.heap.objs.size == sysModules) = false := beq_eq_false_iff_ne.mpr (Ne.symm (Nat.ne_of_lt I.big))
  have I1 : Inv X pins σ (upd H s.heap.objs.size (DX X.prog X.w s.heap.objs.size [])) { s with heap := s.heap.push { cls := .type "dict", data := .dict #[] } } := I.laid (a := s.heap.objs.size) (o := DX X.prog X.w s.heap.objs.size []) (h' := s.heap.push { cls := .type "dict", data := .dict #[] }) (t' := s.toks) (fun _ _ q => Heap.get?_push_of_some _ q) (Nat.le_refl _) (dx_ok big ⟨_, #[], 0, Heap.get?_push_size _ rfl, ⟨rfl, rfl, rfl⟩, rfl, rfl, List.nodup_nil⟩)
  refine wpAny_Dict_any (by rfl) (by rfl) (by simp) (by show 1 ≤ 15; decide) (thn ((pps_cons hk hv (pps_nil (X := X) (pos := pos))).run pins _ σ _ (fun ps H2 => ∃ x y, ps = [(x, y)] ∧ ∃ (k : List Key) (b : Addr), H2 s.heap.objs.size = some (DX X.prog X.w s.heap.objs.size []) ∧ x = .ref b ∧ SqT X.K H2 b (k.map kV) ∧ ∀ u : Value, NoCode H2 s.heap.objs.size → Q (.ref s.heap.objs.size) (upd H2 s.heap.objs.size (DX X.prog X.w s.heap.objs.size [(k, b, u)]))) I1 ?_) fun ws s2 ⟨ps, H2, I2, rel, x, y, eps, kk, b, e, ex, eb, q2⟩ => ?_)
  · have q' := q _ hn
    have mono : ∀ {t : TE} {σ : L2.St} {H : Hp} {Q Q' : VK}, t σ H Q → Q = Q' → t σ H Q' := fun h e => e ▸ h
    show tk σ _ fun x H1 => tv σ H1 fun y H2 => _
    refine mono q' ?_
    funext x H1
    refine congrArg _ ?_
    funext y H2
    refine propext ⟨fun ⟨k, b, h⟩ => ⟨x, y, rfl, k, b, h⟩, fun ⟨x', y', e, k, b, h⟩ => ?_⟩
    cases e
    exact ⟨k, b, h⟩
  · subst eps
    subst ex
    obtain ⟨⟨u, r⟩, rfl, h1, h2⟩ : ∃ p : Value × Value, ws = [p] ∧ RelV (.ref b) p.1 ∧ RelV y p.2 := by
      cases rel with
      | cons h t =>
        cases t
        exact ⟨_, rfl, h.1, h.2⟩
    obtain rfl : u = Value.ref b := h1
    obtain ⟨hd, dd⟩ := dx_dict I2 e (fun _ z => nomatch z)
    unfold storeAll
    rw [List.forIn_cons]
    refine wpAny_bind (wpAny_bind (wpAny_dictSet_heap (hsz := Nat.zero_le _) (knd := tupleKind (mixKind X.prog X.w)) (by show X.A.units < cLine; exact hu) (key_seq I2 eb) dd fun h' dd' hs => wpAny_pure ?_))
    show wpAny _ _ (forIn [] PUnit.unit _) _ _ _
    rw [List.forIn_nil]
    refine wpAny_pure ?_
    obtain ⟨q3, es, ep, hq, k2, k3, k4, _, k5⟩ := dd'
    exact ⟨.ref s.heap.objs.size, _, d_write I2 (by rw [e]; exact True.intro) hs ⟨q3, hq⟩ (dx_ok (xs := [(kk, b, r)]) hd ⟨q3, es, ep, hq, k2, k3, k4, k5⟩), rfl, q2 r (dx_nocode I2 e)⟩
/-- d[k] = v -/
def sDPutX (P : Program) (w : World) (K : PySem.W.Frag) (td tk tv : TE) : TS := fun D σ H => tv σ H fun v H1 => td σ H1 fun x H2 => tk σ H2 fun y H3 => ∃ (a : Addr) (xs : List Ent) (k : List Key) (b : Addr), x = .ref a ∧ H3 a = some (DX P w a xs) ∧ EntsAt K H3 xs ∧ y = .ref b ∧ SqT K H3 b (k.map kV) ∧ xs.length ≤ sizeLine ∧ ∀ u : Value, NoCode H3 a → D.nx σ (upd H3 a (DX P w a (storedH xs k b u)))
theorem ps_dputX {o i value : Expr} {td tk tv : TE} {pos pos' : Pos} (hu : X.A.units + 1 < cLine) (ho : PE X o td) (hi : PE X i tk) (hv : PE X value tv) (hs : swapsWith value (some (.Subscript o i pos')) pos.line X.env = pure false) :
    PS X (.Assign [.Subscript o i pos'] value pos) (sDPutX X.prog X.w X.K td tk tv) := by
  refine ⟨fun pins s σ H D I h => ?_⟩
  refine wpAny_Assign_Subscript (thn (hv.run pins s σ H _ I h) fun r s1 ⟨v, H1, I1, rv, q1⟩ => thn (ho.run pins s1 σ H1 _ I1 q1) fun u s2 ⟨x, H2, I2, rx, q2⟩ => thn (hi.run pins s2 σ H2 _ I2 q2) fun iv s3 ⟨y, H3, I3, ry, a, xs, k, b, ex, e, hx, ey, eb, hz, q3⟩ => ?_) hs
  subst ex ey
  obtain rfl : u = Value.ref a := rx
  obtain rfl : iv = Value.ref b := ry
  obtain ⟨hd, dd⟩ := dx_dict I3 e hx
  refine wpAny_setItem_heap (hsz := hz) (tupleKind_room_in1 hu) (key_seq I3 eb) dd fun h' dd' hs' => ?_
  obtain ⟨q, es, ep, hq, h2, h3, h4, _, h5⟩ := dd'
  exact ⟨σ, _, d_write I3 (by rw [e]; exact True.intro) hs' ⟨q, hq⟩ (dx_ok hd ⟨q, es, ep, hq, h2, h3, h4, h5⟩), q3 r (dx_nocode I3 e)⟩
end
theorem pe_dispXK {X : Cx} {P : Program} {w : World} {K : PySem.W.Frag} {pos : Pos} {k v : Expr} {tk tv : TE} (hP : X.prog = P) (hw : X.w = w) (hK : X.K = K) (hu : X.A.units < cLine) (hk : PE X k tk) (hv : PE X v tv) : PE X (.Dict [some k] [v] pos) (tDispX P w K tk tv) := by
  subst hP hw hK
  exact pe_dispX hu hk hv
theorem ps_dputXK {X : Cx} {P : Program} {w : World} {K : PySem.W.Frag} {o i value : Expr} {td tk tv : TE} {pos pos' : Pos} (hP : X.prog = P) (hw : X.w = w) (hK : X.K = K) (hu : X.A.units + 1 < cLine) (ho : PE X o td) (hi : PE X i tk) (hv : PE X value tv) (hs : swapsWith value (some (.Subscript o i pos')) pos.line X.env = pure false) :
    PS X (.Assign [.Subscript o i pos'] value pos) (sDPutX P w K td tk tv) := by
  subst hP hw hK
  exact ps_dputX hu ho hi hv hs
/-! ### own len and iter, told once -/
structure LenC (P : Program) (w : World) (K : PySem.W.Frag) (mg : Str → Option Value) (base : Heap) (k : Nat) (C : Addr) (sp : Sp) : Prop where
  ex : ∃ (f : Addr) (fd : FuncData) (ps : List Str), OwnM K C "__len__" f ∧ FnOk P w K mg base C8.CX0 k f fd ps sp ∧ Binds K fd ps []
structure OitC (P : Program) (w : World) (K : PySem.W.Frag) (mg : Str → Option Value) (base : Heap) (k : Nat) (C : Addr) (g : Str) : Prop where
  ex : ∃ (f : Addr) (fd : FuncData) (ps : List Str), OwnM K C "__iter__" f ∧ FnN P w K mg base k f fd ps (spIterT K C g) ∧ Binds K fd ps []
section
variable {X : Cx} {C : Addr} {k j : Nat} {sp : Sp} {g : Str} {tg e : Expr} {te : TE}
theorem call_lenC (L : LenC X.prog X.w X.K X.mg X.base k C sp) (hr : Room j X.A) (hj : k + 1 ≤ j) : CallR X (.builtin "len") (rLenO C sp) := by
  obtain ⟨f, fd, ps, O, F, b⟩ := L.ex
  exact call_lenO O F b hr hj
theorem pi_oit (L : OitC X.prog X.w X.K X.mg X.base k C g) (hr : Room j X.A) (hj : k ≤ j) (he : PE X e te) : PI X tg e (iOwnT X.K C g te) := by
  obtain ⟨f, fd, ps, O, F, b⟩ := L.ex
  exact pi_ownT he O F b hr hj
end
/-! ### a def called where the guards are known -/
structure CalG (P : Program) (w : World) (K : PySem.W.Frag) (mg : Str → Option Value) (base : Heap) (k : Nat) (x : Str) (sp : Sp) : Prop where
  ex : ∃ (f : Addr) (fd : FuncData) (ps : List Str), (∀ vs H Q E, sp vs H Q E → vs.length = ps.length) ∧
    (∀ (A : Around) (outer : List Env) (s : Shared) (H : Hp) (args : Args) (us : List Value) (vs : List V) (Q : VK) (E : XK), Room k A → A.guards = some [] → Env0 P w K mg base A outer s H → BindsTo s fd args (ps.zip us) → Vals vs us → sp vs H Q E →
      codeAny (model P w) A (.call (.ref f) args) (CR C8.CX0 outer P w H s Q E) s) ∧ mg x = some (.ref f) ∧ PySem.W.keepIn K (.ref f) = true ∧ Binds K fd ps []
theorem calG {P : Program} {w : World} {K : PySem.W.Frag} {mg : Str → Option Value} {base : Heap} {x : Str} {st : Stmt} {f : Addr} {fd : FuncData} {N ps : List Str} {k : Nat} {sp : Sp} (F : C8.Def K mg x st f fd) (b : Binds K fd ps []) (S : FnScope N ps (C8.fnScope st)) (len : ∀ vs H Q E, sp vs H Q E → vs.length = ps.length)
    (hb : ∀ (c : Value) (A : Around) (out : List Env) (s : Shared) (H : Hp) (vs : List V) (Q : VK) (E : XK), Room k (A.deeper (envOfC x (C8.fnScope st) s.heap.objs.size f c)) → A.guards = some [] → sp vs H Q E →
      ∃ t, PSs (cxOf C8.CX0 P w K mg base N x (C8.fnScope st) f c A out s H E).nox (C8.fnBody st) t ∧ t { nx := fun _ h => Q .non h, rt := Q } (start N vs) H) : CalG P w K mg base (k + 1) x sp := by
  refine ⟨f, fd, ps, len, ?_, F.mgf, F.kp, b⟩
  obtain ⟨oc, od, dV, kV, dc, pm, an, c, ct, sl, rfl, lk, hc⟩ := F.fn.ex
  intro A out s H g us vs Q E hr hg e0 hbind r hsp
  have hn := len _ _ _ _ hsp
  have KX : K.In s.heap := e0.mod.kin.keeps fun _ _ z => keeps_of e0 z
  have lim := e0.mod.nolimit.keeps (h' := s.heap) fun _ _ z => keeps_of e0 z
  refine codeAny_call_function hr.depth (KX _ _ lk) rfl S.co S.gen rfl (PySem.W.codeRec_of KX hc) (hbind _ _ _ _ ?_)
  refine wpAny_newFunctionEnv_cells S.kind (fun y hy => ?_) fun env he s1 x1 => ?_
  · rcases S.par y.1 (List.of_mem_zip hy).1 with z | z
    · exact Or.inl z
    · exact Or.inr ⟨z, PySem.W.cellsFrom_some _ _ _ (Or.inl z)⟩
  · subst he
    refine ⟨lim.keeps x1.toInCall.keep, codeAny_func ?_⟩
    obtain ⟨t, ht, hq⟩ := hb c A out s H vs Q E (hr.deeper _) hg hsp
    refine wpAny_mono (ht.nox.run [] s1 (start N vs) H _ (inv_start S hr.hd e0 hn r x1) hq) (fun fl s' hs => ?_) (fun _ _ hs => hs)
    rcases fl with u | _ | _ | _
    all_goals first
      | exact (by obtain ⟨v, σ', H', J, rv, z⟩ := hs; exact ⟨v, H', J.os, J.bare, J.base, J.hok, rv, z⟩)
      | exact (by obtain ⟨σ', H', J, z⟩ := hs; exact ⟨V.non, H', J.os, J.bare, J.base, J.hok, rfl, z⟩)
      | exact (by obtain ⟨_, _, _, z⟩ := hs; exact z.elim)
section
variable {X : Cx} {k j : Nat} {x : Str} {sp : Sp} {p pos : Pos} {e : Expr} {es : List Expr} {t : TA}
theorem pe_cG (c : CalG X.prog X.w X.K X.mg X.base k x sp) (hr : Room j X.A) (hk : k ≤ j) (hgd : X.A.guards = some []) (hg : Gl X x) (ha : PA X (e :: es) t)
    (hdb : (x == ("__debug__" : Str)) = false := by decide) (he : starEach (e :: es) X.env = (false, eval e X.env) :: starEach es X.env := by rfl) (hpl : (backTo pos (starEach es X.env)).any (·.1) = false := by rfl) :
    PE X (.Call (.Name x p) (e :: es) [] pos) (tCall sp [] C8.E0 t) := by
  obtain ⟨f, fd, ps, len, run, hm, kp, b⟩ := c.ex
  refine ⟨fun pins s σ H Q I h => ?_⟩
  refine wpAny_Call_Name_kw (ld_glob I hg hm ?_ hdb)
  refine PySem.W.callWith_K (h₀ := X.base) I.ok.mod.kin kp (thn (ha.run pos pins s σ H _ I h) fun us s1 ⟨vs, H1, I1, r, q⟩ => ⟨I1.kIn, ?_⟩) he hpl
  dsimp only at q
  rw [List.append_nil] at q
  have hl : us.length = ps.length := by rw [← r.length]; exact len _ _ _ _ q
  refine wpAny_call (codeAny_mono (run X.A X.stack s1 H1 ⟨us, []⟩ us vs Q _ (hr.mono hk) hgd I1.env0 (by
    have := b s1 us I1.kIn (by simpa using hl)
    simpa using this) r q) fun r s' hq => ?_)
  cases r with
  | error e => exact pass0 _ _ _ _ _ _ I1 hq
  | ok fl =>
    cases fl with
    | ret u => exact I1.after hq
    | next => exact False.elim hq
    | brk => exact False.elim hq
    | cont => exact False.elim hq
/-- one of two rules for a call -/
theorem cr_alt {f : Value} {r1 r2 : List V → Hp → VK → Prop} (h1 : CallR X f r1) (h2 : CallR X f r2) : CallR X f (fun xs H Q => r1 xs H Q ∨ r2 xs H Q) := fun pins s σ H xs us Q I r h => h.elim (h1 pins s σ H xs us Q I r) (h2 pins s σ H xs us Q I r)
end
end Vf

set_option maxRecDepth 100000
set_option maxHeartbeats 4000000
namespace Vf
open PySem PySem.Spec PyProof.Rows L2 SX LamX
/-! ### a dict with tuples as keys, with its values -/
section
variable {X : Cx}
/-- {k: v} -/
def tDispY (P : Program) (w : World) (K : PySem.W.Frag) (tk tv : TE) : TE := fun σ H Q => ∀ p, H p = none → tk σ (upd H p (DX P w p [])) fun x H1 => tv σ H1 fun y H2 => ∃ (k : List Key) (b : Addr), H2 p = some (DX P w p []) ∧ x = .ref b ∧ SqT K H2 b (k.map kV) ∧ ∀ u : Value, RelV y u → NoCode H2 p → Q (.ref p) (upd H2 p (DX P w p [(k, b, u)]))
theorem pe_dispY {pos : Pos} {k v : Expr} {tk tv : TE} (hu : X.A.units < cLine) (hk : PE X k tk) (hv : PE X v tv) : PE X (.Dict [some k] [v] pos) (tDispY X.prog X.w X.K tk tv) := by
  refine ⟨fun pins s σ H Q I q => ?_⟩
  have hn := I.hok.fresh (Nat.le_refl s.heap.objs.size)
  have big : (s.heap.objs.size == sysModules) = false := beq_eq_false_iff_ne.mpr (Ne.symm (Nat.ne_of_lt I.big))
  have I1 : Inv X pins σ (upd H s.heap.objs.size (DX X.prog X.w s.heap.objs.size [])) { s with heap := s.heap.push { cls := .type "dict", data := .dict #[] } } := I.laid (a := s.heap.objs.size) (o := DX X.prog X.w s.heap.objs.size []) (h' := s.heap.push { cls := .type "dict", data := .dict #[] }) (t' := s.toks) (fun _ _ q => Heap.get?_push_of_some _ q) (Nat.le_refl _) (dx_ok big ⟨_, #[], 0, Heap.get?_push_size _ rfl, ⟨rfl, rfl, rfl⟩, rfl, rfl, List.nodup_nil⟩)
  refine wpAny_Dict_any (by rfl) (by rfl) (by simp) (by show 1 ≤ 15; decide) (thn ((pps_cons hk hv (pps_nil (X := X) (pos := pos))).run pins _ σ _ (fun ps H2 => ∃ x y, ps = [(x, y)] ∧ ∃ (k : List Key) (b : Addr), H2 s.heap.objs.size = some (DX X.prog X.w s.heap.objs.size []) ∧ x = .ref b ∧ SqT X.K H2 b (k.map kV) ∧ ∀ u : Value, RelV y u → NoCode H2 s.heap.objs.size → Q (.ref s.heap.objs.size) (upd H2 s.heap.objs.size (DX X.prog X.w s.heap.objs.size [(k, b, u)]))) I1 ?_) fun ws s2 ⟨ps, H2, I2, rel, x, y, eps, kk, b, e, ex, eb, q2⟩ => ?_)
  · have q' := q _ hn
    have mono : ∀ {t : TE} {σ : L2.St} {H : Hp} {Q Q' : VK}, t σ H Q → Q = Q' → t σ H Q' := fun h e => e ▸ h
    show tk σ _ fun x H1 => tv σ H1 fun y H2 => _
    refine mono q' ?_
    funext x H1
    refine congrArg _ ?_
    funext y H2
    refine propext ⟨fun ⟨k, b, h⟩ => ⟨x, y, rfl, k, b, h⟩, fun ⟨x', y', e, k, b, h⟩ => ?_⟩
    cases e
    exact ⟨k, b, h⟩
  · subst eps
    subst ex
    obtain ⟨⟨u, r⟩, rfl, h1, h2⟩ : ∃ p : Value × Value, ws = [p] ∧ RelV (.ref b) p.1 ∧ RelV y p.2 := by
      cases rel with
      | cons h t =>
        cases t
        exact ⟨_, rfl, h.1, h.2⟩
    obtain rfl : u = Value.ref b := h1
    obtain ⟨hd, dd⟩ := dx_dict I2 e (fun _ z => nomatch z)
    unfold storeAll
    rw [List.forIn_cons]
    refine wpAny_bind (wpAny_bind (wpAny_dictSet_heap (hsz := Nat.zero_le _) (knd := tupleKind (mixKind X.prog X.w)) (by show X.A.units < cLine; exact hu) (key_seq I2 eb) dd fun h' dd' hs => wpAny_pure ?_))
    show wpAny _ _ (forIn [] PUnit.unit _) _ _ _
    rw [List.forIn_nil]
    refine wpAny_pure ?_
    obtain ⟨q3, es, ep, hq, k2, k3, k4, _, k5⟩ := dd'
    exact ⟨.ref s.heap.objs.size, _, d_write I2 (by rw [e]; exact True.intro) hs ⟨q3, hq⟩ (dx_ok (xs := [(kk, b, r)]) hd ⟨q3, es, ep, hq, k2, k3, k4, k5⟩), rfl, q2 r h2 (dx_nocode I2 e)⟩
/-- d[k] = v -/
def sDPutY (P : Program) (w : World) (K : PySem.W.Frag) (td tk tv : TE) : TS := fun D σ H => tv σ H fun v H1 => td σ H1 fun x H2 => tk σ H2 fun y H3 => ∃ (a : Addr) (xs : List Ent) (k : List Key) (b : Addr), x = .ref a ∧ H3 a = some (DX P w a xs) ∧ EntsAt K H3 xs ∧ y = .ref b ∧ SqT K H3 b (k.map kV) ∧ xs.length ≤ sizeLine ∧ ∀ u : Value, RelV v u → NoCode H3 a → D.nx σ (upd H3 a (DX P w a (storedH xs k b u)))
theorem ps_dputY {o i value : Expr} {td tk tv : TE} {pos pos' : Pos} (hu : X.A.units + 1 < cLine) (ho : PE X o td) (hi : PE X i tk) (hv : PE X value tv) (hs : swapsWith value (some (.Subscript o i pos')) pos.line X.env = pure false) :
    PS X (.Assign [.Subscript o i pos'] value pos) (sDPutY X.prog X.w X.K td tk tv) := by
  refine ⟨fun pins s σ H D I h => ?_⟩
  refine wpAny_Assign_Subscript (thn (hv.run pins s σ H _ I h) fun r s1 ⟨v, H1, I1, rv, q1⟩ => thn (ho.run pins s1 σ H1 _ I1 q1) fun u s2 ⟨x, H2, I2, rx, q2⟩ => thn (hi.run pins s2 σ H2 _ I2 q2) fun iv s3 ⟨y, H3, I3, ry, a, xs, k, b, ex, e, hx, ey, eb, hz, q3⟩ => ?_) hs
  subst ex ey
  obtain rfl : u = Value.ref a := rx
  obtain rfl : iv = Value.ref b := ry
  obtain ⟨hd, dd⟩ := dx_dict I3 e hx
  refine wpAny_setItem_heap (hsz := hz) (tupleKind_room_in1 hu) (key_seq I3 eb) dd fun h' dd' hs' => ?_
  obtain ⟨q, es, ep, hq, h2, h3, h4, _, h5⟩ := dd'
  exact ⟨σ, _, d_write I3 (by rw [e]; exact True.intro) hs' ⟨q, hq⟩ (dx_ok hd ⟨q, es, ep, hq, h2, h3, h4, h5⟩), q3 r rv (dx_nocode I3 e)⟩
end
/-- d[k] -/
def tDGetY (P : Program) (w : World) (K : PySem.W.Frag) (td ty : TE) : TE := fun σ H Q => td σ H fun x H1 => ty σ H1 fun y H2 => ∃ (a : Addr) (xs : List Ent) (k : List Key) (b b2 : Addr) (u : Value) (v : V), x = .ref a ∧ H2 a = some (DX P w a xs) ∧ EntsAt K H2 xs ∧ y = .ref b ∧ SqT K H2 b (k.map kV) ∧ atKey xs k = some (b2, u) ∧ RelV v u ∧ Q v H2
theorem pe_dgetY {X : Cx} {o i : Expr} {td ty : TE} {pos : Pos} (hu : X.A.units + 1 < cLine) (ho : PE X o td) (hi : PE X i ty) (hs : NoSl i) : PE X (.Subscript o i pos) (tDGetY X.prog X.w X.K td ty) := by
  refine ⟨fun pins s σ H Q I h => ?_⟩
  refine subD_of PySem.F.slot_dict_getitem.lookup hs (thn (ho.run pins s σ H _ I h) fun u s1 ⟨x, H1, I1, rx, q1⟩ => thn (hi.run pins s1 σ H1 _ I1 q1) fun iv s2 ⟨y, H2, I2, ry, a, xs, k, b, b2, u2, v, ex, e, hx, ey, eb, hp, rv, q2⟩ => ?_)
  subst ex ey
  obtain rfl : u = Value.ref a := rx
  obtain rfl : iv = Value.ref b := ry
  obtain ⟨hd, dd⟩ := dx_dict I2 e hx
  exact ⟨dd.typeIs, wpAny_getItem_heap (tupleKind_room_in1 hu) (key_seq I2 eb) dd hp ⟨v, H2, I2.tok _, rv, q2⟩⟩
theorem at_snoc {xs : List Ent} {k k2 : List Key} {b : Addr} {u : Value} (h : atKey xs k = none) : atKey (xs ++ [(k, b, u)]) k2 = if k2 = k then some (b, u) else atKey xs k2 := by
  unfold atKey at h ⊢
  rw [List.find?_append]
  by_cases e : k2 = k
  · subst e
    have h' : xs.find? (fun x => decide (x.1 = k2)) = none := by
      cases q : xs.find? (fun x => decide (x.1 = k2)) with
      | none => rfl
      | some z => rw [q] at h; cases h
    rw [if_pos rfl, h', Option.none_or, List.find?_cons_of_pos (by exact decide_eq_true rfl)]
    rfl
  · rw [if_neg e, List.find?_cons_of_neg (by simpa using fun z => e z.symm), List.find?_nil, Option.or_none]
theorem at_stored {xs : List Ent} {k k2 : List Key} {b : Addr} {u : Value} (h : atKey xs k = none) : atKey (storedH xs k b u) k2 = if k2 = k then some (b, u) else atKey xs k2 := by
  rw [storedH_new h]
  exact at_snoc h
theorem pe_dispYK {X : Cx} {P : Program} {w : World} {K : PySem.W.Frag} {pos : Pos} {k v : Expr} {tk tv : TE} (hP : X.prog = P) (hw : X.w = w) (hK : X.K = K) (hu : X.A.units < cLine) (hk : PE X k tk) (hv : PE X v tv) : PE X (.Dict [some k] [v] pos) (tDispY P w K tk tv) := by
  subst hP hw hK
  exact pe_dispY hu hk hv
theorem ps_dputYK {X : Cx} {P : Program} {w : World} {K : PySem.W.Frag} {o i value : Expr} {td tk tv : TE} {pos pos' : Pos} (hP : X.prog = P) (hw : X.w = w) (hK : X.K = K) (hu : X.A.units + 1 < cLine) (ho : PE X o td) (hi : PE X i tk) (hv : PE X value tv) (hs : swapsWith value (some (.Subscript o i pos')) pos.line X.env = pure false) :
    PS X (.Assign [.Subscript o i pos'] value pos) (sDPutY P w K td tk tv) := by
  subst hP hw hK
  exact ps_dputY hu ho hi hv hs
theorem pe_dgetYK {X : Cx} {P : Program} {w : World} {K : PySem.W.Frag} {o i : Expr} {td ty : TE} {pos : Pos} (hP : X.prog = P) (hw : X.w = w) (hK : X.K = K) (hu : X.A.units + 1 < cLine) (ho : PE X o td) (hi : PE X i ty) (hs : NoSl i) : PE X (.Subscript o i pos) (tDGetY P w K td ty) := by
  subst hP hw hK
  exact pe_dgetY hu ho hi hs
end Vf

set_option maxRecDepth 100000
set_option maxHeartbeats 4000000
namespace Vf
open PySem PySem.Spec PyProof.Rows L2 PySem.Froz
/-! ### sorted(set(texts)) -/
/-- a set of texts whose table rises: it can be walked -/
def TxS (P : Program) (w : World) (h : Heap) (a : Addr) (l : List Str) : Prop :=
  ∃ D : SD, h.get? a = some (sObj "set" D) ∧ TxOk P w D l ∧ Ris D.2.2.place.toList ∧ (w.params.followText "set-order" = true ∨ D.2.2.led = true) ∧ l.Nodup
theorem TxS.at {P : Program} {w : World} {h h' : Heap} {a : Addr} {l : List Str} (R : TxS P w h a l) (k : ∀ o, h.get? a = some o → h'.get? a = some o) : TxS P w h' a l :=
  let ⟨D, e, r⟩ := R
  ⟨D, k _ e, r⟩
theorem tail_rises {ep : Nat} {es : Array (Int × Value)} {t : SetTable} {b : Bool} (r : Ris t.place.toList) : Ris (tailTx ep es t b).2.2.place.toList ∧ (tailTx ep es t b).2.2.led = t.led := by
  unfold tailTx
  by_cases c : (!b && t.tooFull) = true
  · rw [if_pos c]; exact ⟨relayAll_ris _ _ _, relayAll_led _ _ _⟩
  · rw [if_neg c]; exact ⟨r, rfl⟩
theorem add_rises (h : Int) (v : Value) {D : SD} (r : Ris D.2.2.place.toList) : Ris (addTx h v D).2.2.place.toList ∧ (addTx h v D).2.2.led = D.2.2.led := by
  have r1 := layNew_ris D.2.2 D.1 h v r
  have l1 := layNew_led D.2.2 D.1 h v
  unfold addTx
  by_cases c : (layNew D.2.2 D.1 h v).2.1.plain = true
  · rw [if_pos c]
    have := tail_rises (ep := D.2.1) (es := (layNew D.2.2 D.1 h v).1) (t := { (layNew D.2.2 D.1 h v).2.1 with plain := false }) (b := (layNew D.2.2 D.1 h v).2.2.1) r1
    exact ⟨this.1, this.2.trans l1⟩
  · rw [if_neg c]
    have := tail_rises (ep := D.2.1) (es := (layNew D.2.2 D.1 h v).1) (t := (layNew D.2.2 D.1 h v).2.1) (b := (layNew D.2.2 D.1 h v).2.2.1) r1
    exact ⟨this.1, this.2.trans l1⟩
section
variable {P : Program} {w : World} {A : Around} {E : Value → Shared → Prop} {s : Shared}
theorem old_x {a : Addr} {D : SD} {l : List Str} {k : Str} {u : Tok} {Q : Bool → Shared → Prop} (ho : s.heap.get? a = some (sObj "set" D)) (F : TxOk P w D l) (hk : k ∈ l) (hb : l.length < scanBound) (h : Q false s) :
    wpAny (model P w) A (setAddHashed a (.str k u) (hashStr w k)) Q E s := by
  obtain ⟨es, ep, t⟩ := D
  have q1 : es.size < scanBound := by have := F.sz; dsimp only at this; omega
  have q2 : ElemsOf (strKind P w) es.toList := F.el
  obtain ⟨j, hj⟩ : ∃ j, List.findIdx? (fun e => (strKind P w).is k e.2) es.toList = some j := by
    cases hr : List.findIdx? (fun e => (strKind P w).is k e.2) es.toList with
    | some j => exact ⟨j, rfl⟩
    | none =>
      obtain ⟨e, he, z⟩ := (F.mem k).mp hk
      have := List.findIdx?_eq_none_iff.mp hr e he
      rw [z] at this; cases this
  unfold setAddHashed setAddHashedIn
  refine wpAny_holding (wpAny_bind (wpAny_setState_of (o := sObj "set" (es, ep, t)) ho rfl F.fit ?_))
  dsimp only
  rw [byScan_of rfl q1 q2, if_pos rfl]
  unfold setAddByScan
  refine wpAny_bind (wpAny_bind (wpAny_rule (wpAny_bind (wpAny_setScan_of (knd := strKind P w) (k := k) (is_str k u) ho rfl F.fit q2 ?_))))
  rw [hj]
  exact wpAny_pure (wpAny_pure h)
/-- a text is put in, or is there -/
theorem txs_add {a : Addr} {l : List Str} {k : Str} {u : Tok} {Q : Bool → Shared → Prop} (R : TxS P w s.heap a l) (room : l.length + 1 < scanBound)
    (h : ∀ (b : Bool) (h' : Heap) (l' : List Str), (∀ c, c ≠ a → h'.get? c = s.heap.get? c) → TxS P w h' a l' → (∀ x, x ∈ l' ↔ x ∈ l ∨ x = k) → l'.length ≤ l.length + 1 → Q b { s with heap := h' }) :
    wpAny (model P w) A (setAddHashed a (.str k u) (hashStr w k)) Q E s := by
  obtain ⟨D, ho, F, r, hl, nd⟩ := R
  by_cases c : k ∈ l
  · exact old_x ho F c (by omega) (h false s.heap l (fun _ _ => rfl) ⟨D, ho, F, r, hl, nd⟩ (fun x => ⟨.inl, fun z => z.elim id fun e => e ▸ c⟩) (Nat.le_succ _))
  · have ar := add_rises (hashStr w k) (.str k u) r
    refine add_x ho F c room (h true _ (k :: l) (fun c hc => Heap.get?_update_other _ _ (Ne.symm hc)) ⟨_, get_upd _ ho rfl, add_ok u F, ar.1, hl.imp id fun z => ar.2.trans z, List.nodup_cons.mpr ⟨c, nd⟩⟩ (fun x => ?_) (by rw [List.length_cons]; exact Nat.le_refl _))
    rw [List.mem_cons]; exact or_comm
theorem txs_loop {I : Addr} {fp wr : List Addr} {G : Array GenState → Array GenState → Prop} {n : Nat} {Pv : Nat → Value → Prop} {St : Nat → Shared → Prop} {R : Result → Shared → Prop} (W : WalksS P w A.in1 I fp wr G n Pv St) {d : Addr} (hd : d ∉ fp) {zs : List Str} (hn : n = zs.length)
    (hb : zs.length + 1 < scanBound) (hv : ∀ i v, Pv i v → ∃ k t, zs[i]? = some k ∧ v = .str k t) : ∀ (m i : Nat) (s : Shared) (l : List Str), i + m = n → St i s → TxS P w s.heap d l → (∀ x, x ∈ l ↔ x ∈ zs.take i) → l.length ≤ i →
      (∀ s' l', Moved (d :: wr) G s s' → TxS P w s'.heap d l' → (∀ x, x ∈ l' ↔ x ∈ zs) → l'.length ≤ n → R (.ok (.ret .none)) s') → codeAny (model P w) A (.builtin "set.update.loop" ⟨[.ref d, .ref I], []⟩) R s := by
  have dw : d ∉ wr := fun z => hd (W.sub _ z)
  have up : ∀ b ∈ wr, b ∈ d :: wr := fun b z => .tail _ z
  intro m
  induction m with
  | zero =>
    intro i s l hi st T hl hlen q
    have e : i = n := hi
    subst e
    refine codeAny_builtin F.entry_set_update_loop ?_
    rw [Around.under_plainId F.plain_set_update_loop _]
    refine wpAny_bind (m := pyNext (.ref I)) (W.done s _ _ st fun s1 mv => ?_)
    refine (?_ : wpAny _ A.in1 (ret Value.none) _ _ s1)
    exact wpAny_pure (q s1 l (mv.mono up) (T.at fun o z => mv.heap d o dw z) (fun x => by rw [hl, List.take_of_length_le (by omega)]) hlen)
  | succ m ih =>
    intro i s l hi st T hl hlen q
    refine codeAny_builtin F.entry_set_update_loop ?_
    rw [Around.under_plainId F.plain_set_update_loop _]
    refine wpAny_bind (m := pyNext (.ref I)) (W.item i s _ _ (by omega) st fun v s1 pv st1 mv => ?_)
    obtain ⟨k, t, hk, rfl⟩ := hv i v pv
    have T1 : TxS P w s1.heap d l := T.at fun o z => mv.heap d o dw z
    refine wpAny_bind (m := holding [Value.str k t] (setAdd d (.str k t))) (wpAny_holding ?_)
    unfold setAdd
    refine wpAny_holding (wpAny_bind ((strKind P w).pyHash (k := k) (is_str k t) ?_))
    refine txs_add (s := { s1 with toks := s1.toks + 1 }) T1 (by omega) fun b h2 l2 hs T2 hl2 hn2 => ?_
    refine wpAny_pure ⟨plainId_quiet F.plain_set_update_loop _, ih (i + 1) _ l2 (by omega) (W.frame _ s1 _ _ st1 (Nat.le_succ _) fun c hc o z => ?_) T2 (fun x => ?_) (by omega) fun s3 l3 mv3 T3 h3 h4 => ?_⟩
    · rw [hs c fun y => hd (y ▸ hc)]; exact z
    · rw [hl2, hl, List.take_add_one, hk, List.mem_append]; simp
    · refine q s3 l3 (Moved.trans W.gtrans ((mv.mono up).then_heap (Nat.le_succ _) fun c o hc z => ?_) mv3) T3 h3 h4
      rw [hs c fun y => hc (by rw [y]; exact .head _)]; exact z
theorem txt_at : ∀ {vs : List Value} {zs : List Str} {i : Nat} {v : Value}, StrsAre vs zs → vs[i]? = some v → ∃ k t, zs[i]? = some k ∧ v = .str k t
  | [], [], _, _, _, e => by cases e
  | u :: vs, z :: zs, i, v, h, e => by
    cases h with
    | cons k t h' => cases i with
      | zero => cases e; exact ⟨_, _, rfl, rfl⟩
      | succ i => exact txt_at (i := i) h' e
abbrev nuSet (w : World) : Obj := { cls := .type "set", dict := none, data := .set #[] 0 (.fresh 0 0 (!w.params.followText "set-order")) }
theorem nu_txs {h : Heap} {a : Addr} (e : h.get? a = some (nuSet w)) : TxS P w h a [] :=
  ⟨(#[], 0, .fresh 0 0 (!w.params.followText "set-order")), e, .nil rfl, List.Pairwise.nil, by
    show _ ∨ (!w.params.followText "set-order") = true
    cases w.params.followText "set-order" <;> simp, List.nodup_nil⟩
def TxMade (P : Program) (w : World) (s : Shared) (zs : List Str) (Q : Value → Shared → Prop) : Prop :=
  ∀ (h' : Heap) (tk : Nat) (l : List Str), TxS P w h' s.heap.objs.size l → (∀ x, x ∈ l ↔ x ∈ zs) → l.length ≤ zs.length → (∀ b o, s.heap.get? b = some o → h'.get? b = some o) → Q (.ref s.heap.objs.size) { s with heap := h', toks := tk }
set_option maxHeartbeats 3200000 in
theorem set_of_texts {d : Addr} {items : Array Value} {zs : List Str} {Q : Value → Shared → Prop} (hh : A.handled = none) (hl : s.heap.IsList d items) (hi : StrsAre items.toList zs) (hb : zs.length + 1 < scanBound) (q : TxMade P w s zs Q) :
    wpAny (model P w) A (call (.type "set") [.ref d]) Q E s := by
  have z0 : items.size = zs.length := by rw [← StrsAre.len_eq hi, Array.length_toList]
  have z1 : (s.heap.push (nuSet w)).get? s.heap.objs.size = some (nuSet w) := Heap.get?_push_size _ rfl
  obtain ⟨c, tl, m1⟩ := F.called_set.mro
  have m2 := F.called_set.made
  have m3 := F.called_set.sub
  have m4 := F.called_set.notType
  have m5 := F.called_set.canCreate
  have m6 := F.typeCall_set_1 (.ref d)
  refine wpAny_call (codeAny_of_tree (?_ : wpAny _ _ (callAny (.type "set") _) _ _ _))
  refine wpAny_pure ⟨Code.quiet_builtin _ (by decide +kernel), codeAny_builtin F.entry_type_call ?_⟩
  rw [Around.under_plain (weight_type_call_type "set" [.ref d] []) rfl]
  repeat (any_goals (first | assumption | wp_step))
  refine codeAny_mono (code_set_led1 (.ref d) (E := E) (Q₁ := fun obj s1 => obj = .ref s.heap.objs.size ∧ s1 = { s with heap := s.heap.push (nuSet w) }) ⟨rfl, rfl⟩) fun r s1 hr => ?_
  rcases r with e | fl
  · exact hr
  · cases fl with
    | ret obj =>
      obtain ⟨rfl, rfl⟩ := hr
      have t1 : Shared.TypeIs { s with heap := s.heap.push (nuSet w) } (.ref s.heap.objs.size) "set" := ⟨_, z1, rfl⟩
      have m7 := F.called_set.init.lookup
      have m8 := F.called_set.init.bind (.ref s.heap.objs.size)
      repeat (any_goals (first | assumption | wp_step))
      refine codeAny_mono (codeAny_call_builtin (R := wants (fun r s2 => r = .none ∧ Q (.ref s.heap.objs.size) s2) E) F.called_set.init.plain F.entry_set_init (check_set_init_1 t1 ?_)) fun r2 s2 h2 => ?_
      · obtain ⟨⟨oc, od, odt, osl⟩, g1, g2, g3, g4⟩ := hl
        dsimp only at g2 g4
        subst g2
        subst g4
        have g5 : (s.heap.push (nuSet w)).IsList d items := ⟨_, Heap.get?_push_of_some _ g1, rfl, g3, rfl⟩
        have g6 : (s.heap.push (nuSet w)).get? d = some { cls := .type "list", dict := od, data := .seq items g3, slots := osl } := Heap.get?_push_of_some _ g1
        have b1 := F.sub_list_set
        have b2 := F.sub_list_frozenset
        have b3 : (Value.type "list" == Value.type "dict") = false := by decide
        have dl : d < s.heap.objs.size := Heap.lt_size g1
        have ps : (s.heap.push (nuSet w)).objs.size = s.heap.objs.size + 1 := Heap.size_push ..
        unfold Builtin.«set.__init__» noKeywords Builtin.Frozenset.updateFrom
        generalize hit : pyIter = it
        wp_walk
        subst hit
        refine wpAny_pyIter_list g5 (wpAny_bind (wpAny_runValue ?_))
        have hx : A.in1.in1.in1.handled = none := by simp [hh]
        have dn : d ≠ (s.heap.push (nuSet w)).objs.size := by rw [ps]; exact Nat.ne_of_lt (Nat.lt_succ_of_lt dl)
        refine txs_loop ((Walks.list hx _ d dn items).toS) (d := s.heap.objs.size) (by rw [ps]; simp; exact (Nat.ne_of_lt dl).symm) z0 hb (fun i v e => ?_) items.size 0 _ [] (Nat.zero_add _) ⟨⟨_, Heap.get?_push_size _ rfl, rfl, rfl⟩, g5.push _⟩ (nu_txs (Heap.get?_push_of_some _ z1)) (by simp) (Nat.zero_le _) fun s9 l9 mv T9 h9 n9 => ?_
        · exact txt_at hi (by rw [Array.getElem?_toList]; exact e)
        · obtain ⟨h9', g9, d9, tk9, o9⟩ := s9
          obtain rfl : g9 = s.gens := mv.gens
          obtain rfl : d9 = s.drawn := mv.drawn
          obtain rfl : o9 = s.os := mv.os
          refine (?_ : wpAny _ _ _ _ _ _)
          refine wpAny_pure (?_ : wpAny _ _ (ret Value.none) _ _ _)
          refine wpAny_pure ⟨rfl, q h9' tk9 l9 T9 h9 (by omega) fun b o e => ?_⟩
          have := Heap.lt_size e
          exact mv.heap b o (by rw [ps]; simp; exact ⟨Nat.ne_of_lt this, Nat.ne_of_lt (Nat.lt_succ_of_lt this)⟩) (Heap.get?_push_of_some _ (Heap.get?_push_of_some _ e))
      · rcases r2 with e | f2
        · exact h2
        · cases f2 with
          | ret r =>
            obtain ⟨rfl, h3⟩ := h2
            repeat (any_goals (first | assumption | wp_step))
          | _ => exact h2.elim
    | _ => exact hr.elim
theorem strs_some : ∀ {vs : List Value}, (∀ v ∈ vs, ∃ k t, v = Value.str k t) → ∃ zs, StrsAre vs zs
  | [], _ => ⟨[], .nil⟩
  | v :: vs, h => by
    obtain ⟨k, t, rfl⟩ := h v (.head _)
    obtain ⟨zs, hz⟩ := strs_some (vs := vs) fun u hu => h u (.tail _ hu)
    exact ⟨k :: zs, .cons _ _ hz⟩
theorem sorted_txs {a : Addr} {l : List Str} {Q : Value → Shared → Prop} (R : TxS P w s.heap a l) (hh : A.handled = none) (h64 : l.length < 64)
    (q : ∀ s' p (out : Array Value) (c : Nat) (ys : List Str), (∀ b o, s.heap.get? b = some o → s'.heap.get? b = some o) → s'.gens = s.gens → s'.os = s.os → s.heap.objs.size ≤ p → s'.heap.get? p = some (seqObj "list" out c) → StrsAre out.toList ys → (∀ y ∈ ys, y ∈ l) → ys.length = l.length → Q (.ref p) s') :
    wpAny (model P w) A (call (.builtin "sorted") [.ref a]) Q E s := by
  obtain ⟨⟨es, ep, t⟩, ho, Fx, r, hl, _⟩ := R
  have f1 : es.size = l.length := Fx.sz
  refine Calls.call_function_entry kind_sorted plain_sorted entry_sorted (args_sorted1 _) ?_
  unfold Builtin.«sorted»
  refine wpAny_bind (m := checkCount "sorted" 1 1 _) (wpAny_pure ?_)
  refine wpAny_bind (collect_set (A := A.in1) (ep := ep) hh ⟨_, ho, rfl, rfl⟩ Fx.fit (by rw [f1]; exact Nat.lt_trans h64 (by decide)) r hl fun s1 vs k1 hz g1 o1 pm => ?_)
  have c1 : vs.length = l.length := by rw [pm.length_eq, List.length_map, Array.length_toList]; exact f1
  have c2 : ∀ v ∈ vs, ∃ k t, v = Value.str k t ∧ k ∈ l := fun v hv => by
    obtain ⟨e, he, rfl⟩ := List.mem_map.mp (pm.mem_iff.mp hv)
    obtain ⟨⟨k, hk, _⟩, _⟩ := Fx.el e he
    obtain ⟨t, ev⟩ := Value.isStrOf_shape (x := k) (v := e.2) hk
    exact ⟨k, t, ev, (Fx.mem k).mpr ⟨e, he, hk⟩⟩
  obtain ⟨ks, hS⟩ := strs_some (vs := vs) fun v hv => let ⟨k, t, e, _⟩ := c2 v hv; ⟨k, t, e⟩
  have c3 : ∀ y ∈ ks, y ∈ l := fun y hy => by
    obtain ⟨i, hi⟩ := List.mem_iff_getElem?.mp hy
    have hlen : ks.length = vs.length := (StrsAre.len_eq hS).symm
    have hi2 : i < vs.length := by rw [← hlen]; exact (List.getElem?_eq_some_iff.mp hi).1
    obtain ⟨k, t, e1, e2⟩ := txt_at hS (List.getElem?_eq_getElem hi2)
    obtain ⟨k', t', e3, e4⟩ := c2 _ (List.getElem_mem hi2)
    rw [hi] at e1
    rw [e2] at e3
    obtain rfl := Option.some.inj e1
    cases e3
    exact e4
  refine wpAny_bind (wpAny_newList ?_ (by rw [c1, sizeLine_eq]; omega))
  have hoL : (s1.heap.push (seqObj "list" vs.toArray 0)).get? s1.heap.objs.size = some (seqObj "list" vs.toArray 0) := Heap.get?_push_size _ rfl
  refine wpAny_bind (wpAny_holding (wpAny_call_entry slot_list_sort ⟨_, hoL, rfl⟩ entry_list_sort
    (list_sort_treeK strKind_oneLt (s := { s1 with heap := s1.heap.push (seqObj "list" vs.toArray 0) }) hoL hS.keysOf (fun v₁ v₂ rest e => keyKind_strs (by rw [← e]; exact hS)) (by rw [c1]; exact h64) fun st' hp hs => ⟨_, rfl, ?_⟩) (args_list_sort _)))
  obtain ⟨ys, d1, d2, d3⟩ := sorted_out_str hS hp hs
  obtain ⟨c, hc⟩ := sortedHeap_at (vs := vs) (out := (arrOf st').map (·.2)) hoL
  refine wpAny_pure ⟨_, rfl, q _ s1.heap.objs.size _ c ys (fun b o e => ?_) g1 o1 hz hc d1 (fun y hy => c3 y (d2.mem_iff.mp hy)) (by rw [d2.length_eq, ← c1, StrsAre.len_eq hS])⟩
  have e1 := k1 b o e
  have e2 := Heap.lt_size e1
  rw [sortedHeap_old (Nat.ne_of_lt e2) (by rw [size_push']; exact Nat.lt_succ_of_lt e2)]
  exact Heap.get?_push_of_some _ e1
end
/-- the set at a, of the texts l -/
def SetX (P : Program) (w : World) (a : Addr) (l : List Str) : HO := .ext fun h => TxS P w h a l
section
variable {X : Cx}
theorem setX_new {w : World} {P : Program} {H : Hp} {h : Heap} {a : Addr} {l : List Str} (R : TxS P w h a l) : ObjOk P w H h a (SetX P w a l) :=
  let ⟨_, ho, _⟩ := id R
  ⟨R, ⟨_, ho⟩, fun _ _ p k => TxS.at p k⟩
def rSetT (K : PySem.W.Frag) (P : Program) (w : World) : List V → Hp → VK → Prop := fun vs H Q => ∃ (a : Addr) (zs : List Str), vs = [V.ref a] ∧ SqL K H a (zs.map V.str) ∧ zs.length + 1 < 200 ∧
  ∀ (l : List Str) (p : Addr), (∀ x, x ∈ l ↔ x ∈ zs) → l.Nodup → H p = none → Q (.ref p) (upd H p (SetX P w p l))
theorem cr_setT (hc : X.calm = true) : CallR X (.type "set") (rSetT X.K X.prog X.w) := by
  intro pins s σ H vs us Q I r h
  obtain ⟨a, zs, rfl, hs, hb, q⟩ := h
  obtain ⟨its, rv, hl, _⟩ := I.list hs
  rw [Vals.ref1 r]
  refine set_of_texts (I.ok.hd hc) hl.isList rv.strs (Nat.lt_trans hb (by decide)) fun h' tk l T hm hn k => ?_
  exact ⟨.ref _, upd H s.heap.objs.size (SetX X.prog X.w s.heap.objs.size l), I.laid (t' := tk) k (Nat.le_refl _) (setX_new T), rfl, q l _ hm (let ⟨_, _, _, _, _, z⟩ := T; z) (I.hok.fresh (Nat.le_refl _))⟩
def rSortedT (P : Program) (w : World) : List V → Hp → VK → Prop := fun vs H Q => ∃ (a : Addr) (l : List Str), vs = [V.ref a] ∧ H a = some (SetX P w a l) ∧ l.length < 64 ∧
  ∀ (ys : List Str) (p : Addr), (∀ y ∈ ys, y ∈ l) → ys.length = l.length → H p = none → Q (.ref p) (upd H p (.lst (ys.map V.str)))
theorem cr_sortedT (hc : X.calm = true) : CallR X (.builtin "sorted") (rSortedT X.prog X.w) := by
  intro pins s σ H vs us Q I r h
  obtain ⟨a, l, rfl, ha, h64, q⟩ := h
  have R : TxS X.prog X.w s.heap a l := (I.hok a _ ha).1
  rw [Vals.ref1 r]
  refine sorted_txs R (I.ok.hd hc) h64 fun s' p out c ys k g o hp hg hi hm hn => ?_
  have z1 : (ys.map V.str).length ≤ sizeLine := by rw [List.length_map, hn, sizeLine_eq]; omega
  have z2 : H p = none := I.hok.fresh hp
  obtain ⟨h9, g9, d9, t9, o9⟩ := s'
  obtain rfl : g9 = s.gens := g
  obtain rfl : o9 = s.os := o
  have J : Inv X pins σ (upd H p (.lst (ys.map V.str))) { s with heap := h9, drawn := d9, toks := t9 } :=
    I.call (ch := []) (Un.laid k hp z2) (I.hok.laid k hp ⟨z1, out.toList, c, vals_of_strs hi, hg⟩) I.bare (fun _ z => nomatch z)
  exact ⟨.ref p, _, J, rfl, q ys p hm hn z2⟩
end
end Vf

set_option maxRecDepth 100000
set_option maxHeartbeats 4000000
namespace Vf
open PySem PySem.Spec PyProof.Rows L2 SX
/-! ### case 'a' | 'b' | .. -/
section
variable {X : Cx}
def strPat : Pattern → Option Str
  | .MatchValue (.Constant (.str s) _ _) _ => some s
  | _ => none
theorem or_first {pins : List (Addr × Obj)} {σ : L2.St} {y : Str} {v : Value} {Q : Option (List (Str × Value)) → Shared → Prop} (rx : RelV (.str y) v) : ∀ (ps : List Pattern) (ss : List Str) (s : Shared) (H : Hp), ps.map strPat = ss.map some → Inv X pins σ H s →
    (∀ s1, Inv X pins σ H s1 → Q (if decide (y ∈ ss) = true then some [] else none) s1) → wpAny (model X.prog X.w) X.A (matchFirst ps X.env v) Q X.xe s
  | [], [], s, H, _, I, q => by
    unfold matchFirst
    exact wpAny_pure (q s I)
  | [], _ :: _, _, _, h, _, _ => nomatch h
  | _ :: _, [], _, _, h, _, _ => nomatch h
  | p :: ps, t :: ss, s, H, h, I, q => by
    have h1 : strPat p = some t := by injection h
    have h2 : ps.map strPat = ss.map some := by injection h
    match p, h1 with
    | .MatchValue (.Constant (.str t') j p1) p2, h1 =>
      obtain rfl : t' = t := Option.some.inj h1
      unfold matchFirst
      rw [arm_matchPattern_MatchValue]
      refine wpAny_bind (wpAny_bind (thn (pe_str.run pins s σ H (fun z H1 => z = .str t' ∧ H1 = H) I ⟨rfl, rfl⟩) fun u s1 ⟨z, H1, I1, rz, e1, e2⟩ => ?_))
      subst e1
      subst e2
      refine wpAny_bind (wpAny_standAt ?_)
      refine wpAny_bind (thn (op_eq pins s1 σ H1 (.str y) (.str t') v u (fun z H2 => z = .bl (decide (y = t')) ∧ H2 = H1) I1 rx rz ⟨rfl, by rw [show decide (V.str y = V.str t') = decide (y = t') from decide_eq_decide.mpr ⟨fun z => V.str.inj z, fun z => by rw [z]⟩]; exact ⟨rfl, rfl⟩⟩) fun b s2 ⟨z, H2, I2, rb, e1, e2⟩ => ?_)
      subst e1
      subst e2
      obtain rfl : b = Value.bool (decide (y = t')) := rb
      refine wpAny_bind (wpAny_truthy_bool ?_)
      by_cases e : y = t'
      · rw [decide_eq_true e, if_pos rfl]
        refine wpAny_pure (wpAny_pure ?_)
        have := q s2 I2
        rw [decide_eq_true (show y ∈ t' :: ss by rw [e]; exact .head _)] at this
        exact this
      · rw [decide_eq_false e, if_neg Bool.false_ne_true]
        refine wpAny_pure ?_
        refine or_first rx ps ss s2 H2 h2 I2 fun s3 I3 => ?_
        have := q s3 I3
        rw [show decide (y ∈ t' :: ss) = decide (y ∈ ss) from decide_eq_decide.mpr ⟨fun z => (List.mem_cons.mp z).resolve_left e, fun z => .tail _ z⟩] at this
        exact this
def tMo (ss : List Str) (tb : TS) (tr : V → TS) : V → TS := fun x D σ H => ∃ y : Str, x = .str y ∧ if decide (y ∈ ss) = true then tb D σ H else tr x D σ H
theorem mc_or {ss : List Str} {ps : List Pattern} {p2 : Pos} {body : List Stmt} {rest : List MatchCase} {tb : TS} {tr : V → TS} (hs : ps.map strPat = ss.map some) (hb : PSs X body tb) (hr : MC X rest tr) (hn : ∀ bs : List (Str × Value), ((namesOfAll (ps.take 1)).filterMap fun n => (bs.lookup n).map (n, ·)) = [] := by intro _; rfl) :
    MC X (⟨.MatchOr ps p2, none, body⟩ :: rest) (tMo ss tb tr) := by
  refine ⟨fun first pins sh σ H D x v I rx h => ?_⟩
  obtain ⟨y, rfl, h⟩ := h
  rw [arm_matchCases_cons]
  refine wpAny_bind (wpAny_holding ?_)
  unfold matchPattern
  refine wpAny_bind (or_first rx ps ss sh H hs I fun s2 I2 => ?_)
  by_cases e : decide (y ∈ ss) = true
  · rw [if_pos e] at h ⊢
    refine wpAny_pure ?_
    rw [hn]
    refine wpAny_bind (wpAny_holding ?_)
    first
      | (show wpAny _ _ (assignInOrder [] []) _ _ _; unfold assignInOrder)
      | skip
    refine wpAny_pure ?_
    refine wpAny_bind (wpAny_pure ?_)
    show wpAny _ _ (execs body X.env) _ _ _
    exact hb.run pins s2 σ H D I2 h
  · rw [if_neg e] at h ⊢
    refine wpAny_pure ?_
    exact hr.run false pins s2 σ H D _ v I2 rx h
end

end Vf

set_option maxRecDepth 100000
set_option maxHeartbeats 4000000
namespace Vf
open PySem PySem.Spec PyProof.Rows L2 SX
/-! ### tuples compared, whatever their items answer -/
section
open PySem.SeqAt AutoSeq1 MeetsSeq MeetsSeq2 MeetsSeq3 SeqRoads2
variable {prog : Program} {w : World} {A : Around} {R : Result → Shared → Prop}
theorem tuple_eqB (l b : Addr) (xs ys : Array Value) (n n2 : Nat) (dd dd2 : Option Addr) (sl sl2 : Array (Option Value)) (J : Shared → Prop)
    (turn : ∀ i (h1 : i < xs.size) (h2 : i < ys.size) s, J s → wpAny (model prog w) A.in1 (eqBool xs[i] ys[i]) (fun _ s' => J s') (fun e s' => R (.error e) s') s)
    (fin : ∀ s (r : Bool), J s → (xs.size ≠ ys.size → r = false) → R (.ok (.ret (.bool r))) s) {s : Shared} (h1 : s.heap.get? l = some { cls := .type "tuple", dict := dd, data := .seq xs n, slots := sl }) (h2 : s.heap.get? b = some { cls := .type "tuple", dict := dd2, data := .seq ys n2, slots := sl2 }) (h : J s) :
    wpAny (model prog w) A.in1 (Builtin.«tuple.__eq__» ⟨[.ref l, .ref b], []⟩) (GQ.FinOf prog w A R) (fun e s' => R (.error e) s') s := by
  have f2 := AutoSeq1.sub_tuple_tuple
  have hh := h
  have hZ : ∀ y x, (y, x) ∈ xs.toList.zip ys.toList → ∃ (i : Nat) (k1 : i < xs.size) (k2 : i < ys.size), y = xs[i] ∧ x = ys[i] := fun y x hm => by
    obtain ⟨i, hi, e⟩ := List.mem_iff_getElem.mp hm
    rw [List.length_zip] at hi
    rw [List.getElem_zip] at e
    have k1 : i < xs.size := by have : i < xs.toList.length := by omega
                                simpa using this
    have k2 : i < ys.size := by have : i < ys.toList.length := by omega
                                simpa using this
    refine ⟨i, k1, k2, ?_, ?_⟩
    · have := congrArg Prod.fst e; simpa using this.symm
    · have := congrArg Prod.snd e; simpa using this.symm
  obtain ⟨hp, g, d, tk, os⟩ := s
  wp_walk using wpAny_loadPart' h1, wpAny_loadPart' h2, wpAny_forIn_list _ (fun rest b s' => b.1 = none ∧ (∀ p ∈ rest, p ∈ xs.toList.zip ys.toList) ∧ J s') _
  case turn =>
    rintro ⟨y, x⟩ rest b s' ⟨hb', hz, hJ⟩
    obtain ⟨i, k1, k2, rfl, rfl⟩ := hZ y x (hz _ (.head _))
    refine wpAny_bind (wpAny_mono (turn i k1 k2 s' hJ) (fun r s2 q2 => ?_) fun _ _ x => x)
    cases r with
    | true =>
      wp_walk
      exact ⟨rfl, fun p hp => hz p (.tail _ hp), q2⟩
    | false =>
      wp_walk
      exact fin s2 false q2 fun _ => rfl
  case fin =>
    rintro ⟨b1, b2⟩ s' ⟨hb', _, hJ⟩
    simp only at hb'
    subst hb'
    wp_walk
    exact fin s' (xs.size == ys.size) hJ fun z => beq_eq_false_iff_ne.mpr z
  case h => exact ⟨rfl, fun _ z => z, hh⟩
theorem rc_tupB {l b : Addr} {xs ys : Array Value} {E : Value → Shared → Prop} {s : Shared} {Q : Value → Shared → Prop} (hu : A.units < cLine) (J : Shared → Prop) (hl : s.heap.IsTuple l xs) (hb : s.heap.IsTuple b ys)
    (turn : ∀ i (h1 : i < xs.size) (h2 : i < ys.size) s, J s → wpAny (model prog w) A.in1 (eqBool xs[i] ys[i]) (fun _ s' => J s') E s)
    (fin : ∀ s (r : Bool), J s → (xs.size ≠ ys.size → r = false) → Q (.bool r) s) (h : J s) : wpAny (model prog w) A (richCompare .Eq (.ref l) (.ref b)) Q E s := by
  obtain ⟨⟨cls, dd, data, sl⟩, ho, hc, n, hd⟩ := id hl
  obtain ⟨⟨cls2, dd2, data2, sl2⟩, ho2, hc2, n2, hd2⟩ := id hb
  simp only at hc hd hc2 hd2
  subst hc hd hc2 hd2
  refine wpAny_richCompare_same_room (op := .Eq) ⟨_, ho, rfl⟩ ⟨_, ho2, rfl⟩ F.slot_tuple_eq (GQ.call_here F.slot_tuple_eq ⟨_, ho, rfl⟩ F.entry_tuple_eq (F.args_tuple_eq_2 _ _) ?_) hu
  exact tuple_eqB (R := wants (fun v s' => v ≠ .notImplemented ∧ Q v s') E) l b xs ys n n2 dd dd2 sl sl2 J turn (fun s' r q z => ⟨(fun x => nomatch x), fin s' r q z⟩) ho ho2 h
end
section
variable {X : Cx} {n j k : Nat} {D : Eqv} {C f : Addr} {fd : FuncData} {ps : List Str} {R : Addr → Addr → Hp → Prop}
/-- == of such two answers something, and only makes objects -/
def EqB (X : Cx) (n : Nat) (D : Eqv) : Prop := ∀ (A : Around) (pins : List (Addr × Obj)) (s : Shared) (σ : L2.St) (H : Hp) (x y : V) (u v : Value), L2.Sub X n A → Inv X pins σ H s → RelV x u → RelV y v → D x y H →
  wpAny (model X.prog X.w) A (eqBool u v) (fun _ s' => ∃ H', Inv X pins σ H' s' ∧ Ext H H') X.xe s
def spEqAny (R : Addr → Addr → Hp → Prop) : Sp := fun vs H Q _ => ∃ a b, vs = [.ref a, .ref b] ∧ R a b H ∧ ∀ (H' : Hp) (r : Bool), Same H H' → Q (.bl r) H'
theorem eqB_ins (O : OwnC X.K C f) (F : FnOk X.prog X.w X.K X.mg X.base C8.CX0 k f fd ps (spEqAny R)) (hb : Binds X.K fd ps []) (hk : k ≤ n) : EqB X n (DIns C R) := by
  intro A pins s σ H x y u v sb I rx ry d
  obtain ⟨a, b, dx, dy, fs, gs, rfl, rfl, ha, hb', hr⟩ := d
  cases rx
  cases ry
  by_cases hab : a = b
  · subst hab
    exact SeqAt.EqAt.same (A := A) (s := s) (.ref a) X.prog X.w X.xe _ ⟨H, I, Ext.rfl'⟩
  refine GQ.eqBool_refG hab ?_
  obtain ⟨mA, J, _⟩ := ins_get I.hok ha
  obtain ⟨mB, J', _⟩ := ins_get I.hok hb'
  obtain ⟨od, J, _⟩ := J.look
  obtain ⟨od', J', _⟩ := J'.look
  obtain ⟨m, hF⟩ := I.fr
  refine PySem.W.cmp_K (op := .Eq) (tb := .ref C) sb.room.units0 hF I.ok.mod.kin J J'.type (by simp [PySem.W.notFirst]) O.hs O.hf ?_
  have hsp : spEqAny R [.ref a, .ref b] H (fun z H' => (∃ r, z = .bl r) ∧ Same H H') (fun _ _ _ => False) := ⟨a, b, rfl, hr, fun H' r e => ⟨⟨r, rfl⟩, e⟩⟩
  have e0 : Env0 X.prog X.w X.K X.mg X.base A X.stack s H := by
    have e := I.env0
    exact ⟨by rw [sb.fr]; exact e.frames, e.mod, e.bs, e.bsz, e.funs, e.frf, e.hok, e.bare⟩
  have hl := F.len _ _ _ _ hsp
  have run := F.run A X.stack s H ⟨[.ref a, .ref b], []⟩ [.ref a, .ref b] [.ref a, .ref b] _ (fun _ _ _ => False) (sb.room.mono hk) e0 (by
    have := hb s [.ref a, .ref b] I.kIn (by simpa using hl)
    simpa using this) (.cons rfl (.cons rfl .nil)) hsp
  refine wpAny_call (codeAny_mono run fun z s' hz => ?_)
  cases z with
  | error e => exact pass0 pins σ H _ e s' I hz
  | ok fl =>
    cases fl with
    | ret w =>
      obtain ⟨v, H', I1, rv, ⟨r, ev⟩, sm⟩ := I.after hz
      subst ev
      obtain rfl : w = Value.bool r := rv
      exact ⟨r, rfl, H', I1, sm⟩
    | next => exact False.elim hz
    | brk => exact False.elim hz
    | cont => exact False.elim hz
/-- == of two tuples, of such items: unlike where the lengths are -/
def rTupB (K : PySem.W.Frag) (D : Eqv) : R2 := fun x y H Q => ∃ a b xs ys, x = .ref a ∧ y = .ref b ∧ SqT K H a xs ∧ SqT K H b ys ∧ (∀ (i : Nat) (u v : V), xs[i]? = some u → ys[i]? = some v → D u v H) ∧ ∀ (H' : Hp) (r : Bool), Same H H' → (xs.length ≠ ys.length → r = false) → Q (.bl r) H'
theorem op_eqTB (hD : Mon D) (h : EqB X n D) (hr : Room j X.A) (hn : n + 1 ≤ j) : OpR X (compareOp .Eq) (rTupB X.K D) := by
  intro pins s σ H x y v u Q I rx ry hq
  obtain ⟨a, b, xs, ys, rfl, rfl, ha, hb, hd, q⟩ := hq
  cases rx
  cases ry
  show wpAny (model X.prog X.w) X.A (richCompare .Eq (.ref a) (.ref b)) (EP X pins σ Q) X.xe s
  obtain ⟨its, r, e, z⟩ := I.tuple ha
  obtain ⟨its2, r2, e2, z2⟩ := I.tuple hb
  have sb : L2.Sub X (n + 1) X.A := ⟨hr.mono hn, rfl⟩
  refine rc_tupB hr.units0 (fun s' => ∃ H', Inv X pins σ H' s' ∧ Ext H H') e e2 (fun i h1 h2 s' ⟨H1, I1, e1⟩ => ?_) (fun s' b ⟨H1, I1, e1⟩ z => ⟨.bl b, H1, I1, rfl, q H1 b e1 fun y => z (by rw [List.size_toArray, List.size_toArray, ← r.length, ← r2.length]; exact y)⟩) ⟨H, I, Ext.rfl'⟩
  have k1 : i < xs.length := by rw [r.length]; simpa using h1
  have k2 : i < ys.length := by rw [r2.length]; simpa using h2
  have g1 : its[i]? = some its.toArray[i] := by
    have h1' : i < its.length := by simpa using h1
    rw [List.getElem?_eq_getElem h1'] <;> simp
  have g2 : its2[i]? = some its2.toArray[i] := by
    have h2' : i < its2.length := by simpa using h2
    rw [List.getElem?_eq_getElem h2'] <;> simp
  obtain ⟨u, hu, ru⟩ := r.get (List.getElem?_eq_getElem k1)
  obtain ⟨v, hv, rv⟩ := r2.get (List.getElem?_eq_getElem k2)
  rw [g1] at hu
  rw [g2] at hv
  rw [Option.some.inj hu, Option.some.inj hv]
  refine wpAny_mono (h X.A.in1 pins s' σ H1 _ _ u v sb.in1 I1 ru rv (hD _ _ _ _ e1 (hd i _ _ (List.getElem?_eq_getElem k1) (List.getElem?_eq_getElem k2)))) (fun r s2 q => ?_) fun _ _ x => x
  obtain ⟨H2, I2, e2⟩ := q
  exact ⟨H2, I2, e1.trans e2⟩
/-- == and != of two tuples of the same objects -/
def rTupS (K : PySem.W.Frag) (r : Bool) : R2 := fun x y H Q => ∃ a b xs, x = .ref a ∧ y = .ref b ∧ SqT K H a xs ∧ SqT K H b xs ∧ (∀ v ∈ xs, ∃ c, v = .ref c) ∧ Q (.bl r) H
theorem same_items {xs : List V} {us vs : List Value} (r : Vals xs us) (r2 : Vals xs vs) (h : ∀ v ∈ xs, ∃ c, v = .ref c) : us = vs := by
  induction xs generalizing us vs with
  | nil => cases r; cases r2; rfl
  | cons x xs ih =>
    cases r with
    | cons a1 b1 =>
      cases r2 with
      | cons a2 b2 =>
        obtain ⟨c, rfl⟩ := h x (.head _)
        cases a1; cases a2
        rw [ih b1 b2 fun v hv => h v (.tail _ hv)]
theorem all_yes (n : Nat) : (((List.range (min n n)).all fun _ => true) && n == n) = true := by
  rw [beq_self_eq_true, Bool.and_true]
  exact List.all_eq_true.mpr fun _ _ => rfl
theorem op_eqTS (hr : Room j X.A) : OpR X (compareOp .Eq) (rTupS X.K true) := by
  intro pins s σ H x y v u Q I rx ry hq
  obtain ⟨a, b, xs, rfl, rfl, ha, hb, hc, q⟩ := hq
  cases rx
  cases ry
  show wpAny (model X.prog X.w) X.A (richCompare .Eq (.ref a) (.ref b)) (EP X pins σ Q) X.xe s
  obtain ⟨its, r, e, z⟩ := I.tuple ha
  obtain ⟨its2, r2, e2, z2⟩ := I.tuple hb
  obtain rfl := same_items r r2 hc
  have t := SeqAt.RcAt.tuples (A := X.A) (s := s) (e := fun _ => true) e e2 hr.units0 (fun i h1 h2 => SeqAt.EqAt.same _)
  rw [all_yes] at t
  exact t X.prog X.w X.xe _ ⟨.bl true, H, I, rfl, q⟩
theorem op_neTS (hr : Room j X.A) : OpR X (compareOp .NotEq) (rTupS X.K false) := by
  intro pins s σ H x y v u Q I rx ry hq
  obtain ⟨a, b, xs, rfl, rfl, ha, hb, hc, q⟩ := hq
  cases rx
  cases ry
  show wpAny (model X.prog X.w) X.A (richCompare .NotEq (.ref a) (.ref b)) (EP X pins σ Q) X.xe s
  obtain ⟨its, r, e, z⟩ := I.tuple ha
  obtain ⟨its2, r2, e2, z2⟩ := I.tuple hb
  obtain rfl := same_items r r2 hc
  have t := SeqAt.RcNeAt.tuples (A := X.A) (s := s) (e := fun _ => true) e e2 hr.units0 (fun i h1 h2 => SeqAt.EqAt.same _)
  rw [all_yes] at t
  exact t X.prog X.w X.xe _ ⟨.bl false, H, I, rfl, q⟩
/-! ### an own == asked about a value of another kind -/
def spEqF (K : PySem.W.Frag) (C : Addr) : Sp := fun vs H Q _ => ∃ (a : Addr) (y : V) (dx : Addr) (fs : List (Str × V)) (t : Value), vs = [.ref a, y] ∧ H a = some (.ins C dx fs) ∧ TyX K H y t ∧ PySem.W.kitOne K t (.ref C) = some false ∧ Q (.bl false) H
def rEqF (K : PySem.W.Frag) (C : Addr) (n : Bool) : R2 := fun x y H Q => ∃ (a dx : Addr) (fs : List (Str × V)) (t : Value), x = .ref a ∧ H a = some (.ins C dx fs) ∧ TyX K H y t ∧ PySem.W.kitOne K t (.ref C) = some false ∧ PySem.W.subIn K t (.ref C) = some false ∧ Q (.bl n) H
theorem op_eqF (O : OwnC X.K C f) (F : FnOk X.prog X.w X.K X.mg X.base C8.CX0 k f fd ps (spEqF X.K C)) (hb : Binds X.K fd ps []) (hr : Room j X.A) (hj : k ≤ j) : OpR X (compareOp .Eq) (rEqF X.K C false) := by
  intro pins s σ H x y v u Q I rx ry hq
  obtain ⟨a, dx, fs, t, rfl, ha, ty, kt, sb, q⟩ := hq
  cases rx
  show wpAny (model X.prog X.w) X.A (richCompare .Eq (.ref a) u) (EP X pins σ Q) X.xe s
  obtain ⟨mA, J, _⟩ := ins_get I.hok ha
  obtain ⟨od, J, _⟩ := J.look
  obtain ⟨m, hF⟩ := I.fr
  obtain ⟨Pt, Z, p, _⟩ := kit_of I ry ty
  refine PySem.W.cmp_K (op := .Eq) (tb := t) hr.units0 hF I.ok.mod.kin J (Z.ty _ _ I.kIn p) (by rw [PySem.W.notFirst, sb]; exact Bool.or_true _) O.hs O.hf ?_
  refine thn (run_fn (us := [.ref a, u]) (vs := [.ref a, y]) (Q := fun v H' => v = .bl false ∧ H' = H) F (hr.mono hj) hb .nil pass0 I (.cons rfl (.cons ry .nil)) ⟨a, y, dx, fs, t, rfl, ha, ty, kt, rfl, rfl⟩) fun z s1 hz => ?_
  obtain ⟨v, H', I1, rv, e, eH⟩ := hz
  subst e; subst eH
  obtain rfl : z = Value.bool false := rv
  exact ⟨.bl false, H', I1, rfl, q⟩
/-- None == such an instance: it is asked the other way round -/
def rNEqF (K : PySem.W.Frag) (C : Addr) : R2 := fun x y H Q => ∃ (b dx : Addr) (fs : List (Str × V)), x = .non ∧ y = .ref b ∧ H b = some (.ins C dx fs) ∧ PySem.W.subIn K (.ref C) (.type "NoneType") = some false ∧ PySem.W.kitOne K (.type "NoneType") (.ref C) = some false ∧ Q (.bl false) H
theorem op_eqNF (O : OwnC X.K C f) (F0 : FnOk X.prog X.w X.K X.mg X.base C8.CX0 k f fd ps (spEqF X.K C)) (hb : Binds X.K fd ps []) (hr : Room j X.A) (hj : k ≤ j) : OpR X (compareOp .Eq) (rNEqF X.K C) := by
  intro pins s σ H x y v u Q I rx ry hq
  obtain ⟨b, dx, fs, rfl, rfl, ha, sb, kt, q⟩ := hq
  obtain rfl : v = Value.none := rx
  cases ry
  show wpAny (model X.prog X.w) X.A (richCompare .Eq .none (.ref b)) (EP X pins σ Q) X.xe s
  obtain ⟨mA, J, _⟩ := ins_get I.hok ha
  obtain ⟨od, J, _⟩ := J.look
  have hN : s.TypeIs .none "NoneType" := rfl
  simp only [richCompare, hN.oneThing_none]
  refine wpAny_holding (wpAny_bind (wpAny_cRoomFor hr.units0 ?_))
  refine wpAny_bind (wpAny_typeOf hN (wpAny_bind (J.type.here ?_)))
  rw [if_pos (show (Value.type "NoneType" != Value.ref C) = true from rfl)]
  refine wpAny_bind ((PySem.W.looks_subIn I.kIn sb).here ?_)
  simp only [Bool.false_eq_true, if_false, Bool.not_false, if_true]
  refine wpAny_bind (m := tryCompare .none _ (.ref b)) (wpAny_tryCompare_declines hN PySem.F.slot_NoneType_eq (call_gives PySem.F.slot_NoneType_eq hN PySem.F.entry_NoneType_eq (PySem.F.args_NoneType_eq_2 _ _) (PySem.SeqAt.NoneType___eq___none_ref_0 b) ⟨rfl, ?_⟩))
  refine wpAny_bind (m := tryCompare (.ref b) _ .none) ?_
  unfold tryCompare
  refine wpAny_bind (PySem.W.ifBound_K I.kIn J O.hs O.hf ?_)
  refine thn (run_fn (us := [.ref b, .none]) (vs := [.ref b, .non]) (Q := fun v H' => v = .bl false ∧ H' = H) F0 (hr.mono hj) hb .nil pass0 I (.cons rfl (.cons rfl .nil)) ⟨b, .non, dx, fs, _, rfl, ha, .base .non, kt, rfl, rfl⟩) fun z s1 hz => ?_
  obtain ⟨v, H', I1, rv, e, eH⟩ := hz
  subst e; subst eH
  obtain rfl : z = Value.bool false := rv
  exact wpAny_pure (wpAny_pure ⟨.bl false, H', I1, rfl, q⟩)
/-! ### stores by *= -/
def rMulI : V → V → Hp → VK → Prop := fun x y H Q => ∃ i j, x = .int i ∧ y = .int j ∧ CMul i j ∧ Q (.int (i * j)) H
theorem in_mul : InOp X .Mult rMulI := by
  rintro pins s σ H x y u v Q I rx ry ⟨i, j, rfl, rfl, hc, q⟩
  obtain ⟨t, rfl⟩ := (show ∃ t, u = Value.int i t from rx)
  obtain ⟨t', rfl⟩ := (show ∃ t', v = Value.int j t' from ry)
  exact PySem.P.imul_int ⟨.int (i * j), H, I.tok _, ⟨_, rfl⟩, q⟩ hc.ok
end
end Vf

set_option maxRecDepth 100000
set_option maxHeartbeats 4000000
namespace Vf
open PySem PySem.Spec PyProof.Rows L2 SX
/-! ### defaults: a class whose __init__ may raise, a def that may raise -/
structure MakXD (P : Program) (w : World) (K : PySem.W.Frag) (mg : Str → Option Value) (base : Heap) (k : Nat) (x : Str) (C : Addr) (sp : Sp) (dvs : List V) : Prop where
  ex : ∃ (f : Addr) (fd : FuncData) (ps : List Str) (ds : List Value), Mk K C f ∧ FnOk P w K mg base (L2.CX P w) k f fd ps sp ∧ mg x = some (.ref C) ∧ Binds K fd ps ds ∧ Vals dvs ds
structure CalXD (P : Program) (w : World) (K : PySem.W.Frag) (mg : Str → Option Value) (base : Heap) (k : Nat) (x : Str) (sp : Sp) (dvs : List V) : Prop where
  ex : ∃ (f : Addr) (fd : FuncData) (ps : List Str) (ds : List Value), FnOk P w K mg base (L2.CX P w) k f fd ps sp ∧ mg x = some (.ref f) ∧ PySem.W.keepIn K (.ref f) = true ∧ Binds K fd ps ds ∧ Vals dvs ds
/-- a class called with n values and the keywords ks -/
structure MakN (P : Program) (w : World) (K : PySem.W.Frag) (mg : Str → Option Value) (base : Heap) (k : Nat) (x : Str) (C : Addr) (sp : Sp) (n : Nat) (ks : List Str) (gV : List V → List V → List V) : Prop where
  ex : ∃ (f : Addr) (fd : FuncData) (ps : List Str) (g : List Value → List Value → List Value), Mk K C f ∧ FnOk P w K mg base C8.CX0 k f fd ps sp ∧ mg x = some (.ref C) ∧ KBn K fd ps (n + 1) ks g gV
section
variable {X : Cx} {k j n : Nat} {x : Str} {C : Addr} {sp : Sp} {dvs : List V} {ks : List Str} {gV : List V → List V → List V} {p pos : Pos} {e : Expr} {es : List Expr} {kws : List Keyword} {t tk : TA}
theorem pe_mkXD0 (c : MakXD X.prog X.w X.K X.mg X.base k x C sp dvs) (hr : Room j X.A) (hk : k + 1 ≤ j) (hg : Gl X x) (ha : PA X (e :: es) t)
    (hdb : (x == ("__debug__" : Str)) = false := by decide) (he : starEach (e :: es) X.env = (false, eval e X.env) :: starEach es X.env := by rfl) (hpl : (backTo pos (starEach es X.env)).any (·.1) = false := by rfl) :
    PE X (.Call (.Name x p) (e :: es) [] pos) (tMake C sp dvs E0 t) := by
  obtain ⟨f, fd, ps, ds, M, F, hm, b, d⟩ := c.ex
  exact pe_make M F (hr.mono hk) hg hm b d passL ha hdb he hpl
theorem pe_cxD0 (c : CalXD X.prog X.w X.K X.mg X.base k x sp dvs) (hr : Room j X.A) (hk : k ≤ j) (hg : Gl X x) (ha : PA X (e :: es) t)
    (hdb : (x == ("__debug__" : Str)) = false := by decide) (he : starEach (e :: es) X.env = (false, eval e X.env) :: starEach es X.env := by rfl) (hpl : (backTo pos (starEach es X.env)).any (·.1) = false := by rfl) :
    PE X (.Call (.Name x p) (e :: es) [] pos) (tCall sp dvs E0 t) := by
  obtain ⟨f, fd, ps, ds, F, hm, kp, b, d⟩ := c.ex
  exact pe_call F (hr.mono hk) hg hm kp b d passL ha hdb he hpl
theorem pe_mkN (c : MakN X.prog X.w X.K X.mg X.base k x C sp n ks gV) (hr : Room j X.A) (hk : k + 1 ≤ j) (hg : Gl X x) (ha : PA X (e :: es) t) (hkw : PK X kws tk)
    (hks : (backToKw pos (keywordEach kws X.env)).filterMap (·.1) = ks := by rfl) (hall : (backToKw pos (keywordEach kws X.env)).all (·.1.isSome) = true := by rfl)
    (hdb : (x == ("__debug__" : Str)) = false := by decide) (he : starEach (e :: es) X.env = (false, eval e X.env) :: starEach es X.env := by rfl)
    (hpl : ((backTo pos (starEach (e :: es) X.env)).any (·.1) || (backToKw pos (keywordEach kws X.env)).any (·.1.isNone)) = false := by rfl) :
    PE X (.Call (.Name x p) (e :: es) kws pos) (tMakeN C n ks.length sp gV C8.E0 t tk) := by
  obtain ⟨f, fd, ps, g, M, F, hm, b⟩ := c.ex
  exact pe_makeN M F (hr.mono hk) hg hm b pass0 ha hkw hall hks hdb he hpl
end
/-! ### == in all the ways that are met -/
/-- an own == told for two instances, and for one and a value of another kind -/
structure EqO (P : Program) (w : World) (K : PySem.W.Frag) (mg : Str → Option Value) (base : Heap) (k : Nat) (C : Addr) (R : Addr → Addr → Bool → Hp → Prop) : Prop where
  ex : ∃ (f : Addr) (fd : FuncData) (ps : List Str), OwnC K C f ∧ FnOk P w K mg base C8.CX0 k f fd ps (spEqI R) ∧ FnOk P w K mg base C8.CX0 k f fd ps (spEqF K C) ∧ Binds K fd ps []
/-- an own == of which only the kind of the answer is told -/
structure EqAny (P : Program) (w : World) (K : PySem.W.Frag) (mg : Str → Option Value) (base : Heap) (k : Nat) (C : Addr) (R : Addr → Addr → Hp → Prop) : Prop where
  ex : ∃ (f : Addr) (fd : FuncData) (ps : List Str), OwnC K C f ∧ FnOk P w K mg base C8.CX0 k f fd ps (spEqAny R) ∧ Binds K fd ps []
  mon : Mon (DIns C R)
def rEqO (K : PySem.W.Frag) (C : Addr) (R : Addr → Addr → Bool → Hp → Prop) : R2 := fun x y H Q => rEq x y H Q ∨ rEqI C false R x y H Q ∨ rEqF K C false x y H Q ∨ rNEqF K C x y H Q
section
variable {X : Cx} {k j : Nat} {C : Addr} {R : Addr → Addr → Bool → Hp → Prop} {R0 : Addr → Addr → Hp → Prop}
theorem op_eqO (c : EqO X.prog X.w X.K X.mg X.base k C R) (hr : Room j X.A) (hk : k ≤ j) : OpR X (compareOp .Eq) (rEqO X.K C R) := by
  obtain ⟨f, fd, ps, O, F, G, b⟩ := c.ex
  exact op_alt op_eq (op_alt (op_eqI O F b hr hk) (op_alt (op_eqF O G b hr hk) (op_eqNF O G b hr hk)))
theorem op_neO (c : EqO X.prog X.w X.K X.mg X.base k C R) (hr : Room j X.A) (hk : k + 1 ≤ j) : OpR X (compareOp .NotEq) (rEqI C true R) := by
  obtain ⟨f, fd, ps, O, F, G, b⟩ := c.ex
  exact op_neI O F b hr hk
theorem op_eqTA (c : EqAny X.prog X.w X.K X.mg X.base k C R0) (hr : Room j X.A) (hk : k + 1 ≤ j) : OpR X (compareOp .Eq) (fun x y H Q => rTupS X.K true x y H Q ∨ rTupB X.K (DIns C R0) x y H Q) := by
  obtain ⟨f, fd, ps, O, F, b⟩ := c.ex
  exact op_alt (op_eqTS hr) (op_eqTB c.mon (eqB_ins O F b (Nat.le_refl k)) hr hk)
end
end Vf

set_option maxRecDepth 100000
set_option maxHeartbeats 4000000
namespace Vf
open PySem PySem.Spec PyProof.Rows L2 SX
def kd_KIND_LETTERS (z : Str) : Option V := if z = "code" then some (.str "c") else if z = "quotes" then some (.str "q") else if z = "remarks" then some (.str "r") else none
def topS (i : Nat) : Stmt := PySem.Challenge.pw_textworkshop_k28_scripts_made_and_refuse.main.body.getD i (.Pass ⟨0, 0, 0, 0⟩)
abbrev s_isKind : Stmt := topS 11
def N_isKind : List Str := ["value"]
theorem sc_isKind : FnScope N_isKind ["value"] (C8.fnScope s_isKind) := C8.fnScope_by (by decide +kernel)
abbrev s_isText : Stmt := topS 15
def N_isText : List Str := ["value", "sign"]
theorem sc_isText : FnScope N_isText ["value"] (C8.fnScope s_isText) := C8.fnScope_by (by decide +kernel)
abbrev s_isWord : Stmt := topS 16
def N_isWord : List Str := ["value"]
theorem sc_isWord : FnScope N_isWord ["value"] (C8.fnScope s_isWord) := C8.fnScope_by (by decide +kernel)
abbrev s_isPatch : Stmt := topS 17
def N_isPatch : List Str := ["value"]
theorem sc_isPatch : FnScope N_isPatch ["value"] (C8.fnScope s_isPatch) := C8.fnScope_by (by decide +kernel)
abbrev s_isWhole : Stmt := topS 18
def N_isWhole : List Str := ["value"]
theorem sc_isWhole : FnScope N_isWhole ["value"] (C8.fnScope s_isWhole) := C8.fnScope_by (by decide +kernel)
abbrev s_LineTest_init : Stmt := (C8.clsBody (topS 24)).getD 0 (.Pass ⟨0, 0, 0, 0⟩)
def N_LineTest_init : List Str := ["self", "word", "argument", "parts", "negated"]
theorem sc_LineTest_init : FnScope N_LineTest_init ["self", "word", "argument", "parts", "negated"] (C8.fnScope s_LineTest_init) := C8.fnScope_by (by decide +kernel)
abbrev s_LineTest_eq : Stmt := (C8.clsBody (topS 24)).getD 1 (.Pass ⟨0, 0, 0, 0⟩)
def N_LineTest_eq : List Str := ["self", "other"]
theorem sc_LineTest_eq : FnScope N_LineTest_eq ["self", "other"] (C8.fnScope s_LineTest_eq) := C8.fnScope_by (by decide +kernel)
abbrev s_plainTest : Stmt := topS 27
def N_plainTest : List Str := ["word", "argument"]
theorem sc_plainTest : FnScope N_plainTest ["word", "argument"] (C8.fnScope s_plainTest) := C8.fnScope_by (by decide +kernel)
abbrev s_rangeTest : Stmt := topS 28
def N_rangeTest : List Str := ["first", "second"]
theorem sc_rangeTest : FnScope N_rangeTest ["first", "second"] (C8.fnScope s_rangeTest) := C8.fnScope_by (by decide +kernel)
abbrev s_otherTest : Stmt := topS 29
def N_otherTest : List Str := ["test"]
theorem sc_otherTest : FnScope N_otherTest ["test"] (C8.fnScope s_otherTest) := C8.fnScope_by (by decide +kernel)
abbrev s_isPlain : Stmt := topS 30
def N_isPlain : List Str := ["value"]
theorem sc_isPlain : FnScope N_isPlain ["value"] (C8.fnScope s_isPlain) := C8.fnScope_by (by decide +kernel)
abbrev s_isLineWord : Stmt := topS 31
def N_isLineWord : List Str := ["value"]
theorem sc_isLineWord : FnScope N_isLineWord ["value"] (C8.fnScope s_isLineWord) := C8.fnScope_by (by decide +kernel)
abbrev s_isWithin : Stmt := topS 32
def N_isWithin : List Str := ["value", "bounds"]
theorem sc_isWithin : FnScope N_isWithin ["value", "bounds"] (C8.fnScope s_isWithin) := C8.fnScope_by (by decide +kernel)
abbrev s_Rule_init : Stmt := (C8.clsBody (topS 40)).getD 0 (.Pass ⟨0, 0, 0, 0⟩)
def N_Rule_init : List Str := ["self", "words", "options"]
theorem sc_Rule_init : FnScope N_Rule_init ["self", "words"] (C8.fnScope s_Rule_init) := C8.fnScope_by (by decide +kernel)
abbrev s_readRules : Stmt := topS 41
def N_readRules : List Str := ["text", "rules", "openers", "number", "line", "column"]
theorem sc_readRules : FnScope N_readRules ["text"] (C8.fnScope s_readRules) := C8.fnScope_by (by decide +kernel)
abbrev s_wrongColumn : Stmt := topS 42
def N_wrongColumn : List Str := ["line", "openers", "words", "column", "place", "word"]
theorem sc_wrongColumn : FnScope N_wrongColumn ["line", "openers"] (C8.fnScope s_wrongColumn) := C8.fnScope_by (by decide +kernel)
abbrev s_canStand : Stmt := topS 43
def N_canStand : List Str := ["ahead", "word", "openers"]
theorem sc_canStand : FnScope N_canStand ["ahead", "word", "openers"] (C8.fnScope s_canStand) := C8.fnScope_by (by decide +kernel)
abbrev s_optionCanStand : Stmt := topS 44
def N_optionCanStand : List Str := ["ahead", "word", "given", "option"]
theorem sc_optionCanStand : FnScope N_optionCanStand ["ahead", "word"] (C8.fnScope s_optionCanStand) := C8.fnScope_by (by decide +kernel)
abbrev s_isMark : Stmt := topS 45
def N_isMark : List Str := ["word", "sign"]
theorem sc_isMark : FnScope N_isMark ["word"] (C8.fnScope s_isMark) := C8.fnScope_by (by decide +kernel)
abbrev s_ruleWeight : Stmt := topS 46
def N_ruleWeight : List Str := ["rule", "many"]
theorem sc_ruleWeight : FnScope N_ruleWeight ["rule"] (C8.fnScope s_ruleWeight) := C8.fnScope_by (by decide +kernel)
abbrev s_Reader_init : Stmt := (C8.clsBody (topS 49)).getD 0 (.Pass ⟨0, 0, 0, 0⟩)
def N_Reader_init : List Str := ["self", "rules", "marks", "number", "rule", "depth"]
theorem sc_Reader_init : FnScope N_Reader_init ["self", "rules"] (C8.fnScope s_Reader_init) := C8.fnScope_by (by decide +kernel)
abbrev s_pieceMarks : Stmt := topS 50
def N_pieceMarks : List Str := ["rule", "number", "depth", "marks"]
theorem sc_pieceMarks : FnScope N_pieceMarks ["rule", "number", "depth"] (C8.fnScope s_pieceMarks) := C8.fnScope_by (by decide +kernel)
abbrev s_longestFirst : Stmt := topS 51
def N_longestFirst : List Str := ["marks"]
theorem sc_longestFirst : FnScope N_longestFirst ["marks"] (C8.fnScope s_longestFirst) := C8.fnScope_by (by decide +kernel)
abbrev s_Tongue_init : Stmt := (C8.clsBody (topS 53)).getD 0 (.Pass ⟨0, 0, 0, 0⟩)
def N_Tongue_init : List Str := ["self", "text", "rules", "rule"]
theorem sc_Tongue_init : FnScope N_Tongue_init ["self", "text"] (C8.fnScope s_Tongue_init) := C8.fnScope_by (by decide +kernel)
abbrev s_Tongue_eq : Stmt := (C8.clsBody (topS 53)).getD 3 (.Pass ⟨0, 0, 0, 0⟩)
def N_Tongue_eq : List Str := ["self", "other"]
theorem sc_Tongue_eq : FnScope N_Tongue_eq ["self", "other"] (C8.fnScope s_Tongue_eq) := C8.fnScope_by (by decide +kernel)
abbrev s_Step_init : Stmt := (C8.clsBody (topS 55)).getD 0 (.Pass ⟨0, 0, 0, 0⟩)
def N_Step_init : List Str := ["self", "word", "old", "new", "kind", "test", "guard"]
theorem sc_Step_init : FnScope N_Step_init ["self", "word", "old", "new", "kind", "test", "guard"] (C8.fnScope s_Step_init) := C8.fnScope_by (by decide +kernel)
abbrev s_Step_eq : Stmt := (C8.clsBody (topS 55)).getD 1 (.Pass ⟨0, 0, 0, 0⟩)
def N_Step_eq : List Str := ["self", "other"]
theorem sc_Step_eq : FnScope N_Step_eq ["self", "other"] (C8.fnScope s_Step_eq) := C8.fnScope_by (by decide +kernel)
abbrev s_replaceStep : Stmt := topS 56
def N_replaceStep : List Str := ["old", "new", "kind", "test"]
theorem sc_replaceStep : FnScope N_replaceStep ["old", "new", "kind", "test"] (C8.fnScope s_replaceStep) := C8.fnScope_by (by decide +kernel)
abbrev s_firstStep : Stmt := topS 57
def N_firstStep : List Str := ["old", "new"]
theorem sc_firstStep : FnScope N_firstStep ["old", "new"] (C8.fnScope s_firstStep) := C8.fnScope_by (by decide +kernel)
abbrev s_onceStep : Stmt := topS 58
def N_onceStep : List Str := ["old", "new"]
theorem sc_onceStep : FnScope N_onceStep ["old", "new"] (C8.fnScope s_onceStep) := C8.fnScope_by (by decide +kernel)
abbrev s_dropStep : Stmt := topS 59
def N_dropStep : List Str := ["test"]
theorem sc_dropStep : FnScope N_dropStep ["test"] (C8.fnScope s_dropStep) := C8.fnScope_by (by decide +kernel)
abbrev s_keepStep : Stmt := topS 60
def N_keepStep : List Str := ["test"]
theorem sc_keepStep : FnScope N_keepStep ["test"] (C8.fnScope s_keepStep) := C8.fnScope_by (by decide +kernel)
abbrev s_putStep : Stmt := topS 61
def N_putStep : List Str := ["where", "new", "test"]
theorem sc_putStep : FnScope N_putStep ["where", "new", "test"] (C8.fnScope s_putStep) := C8.fnScope_by (by decide +kernel)
abbrev s_stripStep : Stmt := topS 62
def N_stripStep : List Str := ["old", "test"]
theorem sc_stripStep : FnScope N_stripStep ["old", "test"] (C8.fnScope s_stripStep) := C8.fnScope_by (by decide +kernel)
abbrev s_checkExchange : Stmt := topS 63
def N_checkExchange : List Str := ["old", "new"]
theorem sc_checkExchange : FnScope N_checkExchange ["old", "new"] (C8.fnScope s_checkExchange) := C8.fnScope_by (by decide +kernel)
abbrev s_checkTest : Stmt := topS 64
def N_checkTest : List Str := ["test"]
theorem sc_checkTest : FnScope N_checkTest ["test"] (C8.fnScope s_checkTest) := C8.fnScope_by (by decide +kernel)
abbrev s_Script_init : Stmt := (C8.clsBody (topS 68)).getD 0 (.Pass ⟨0, 0, 0, 0⟩)
def N_Script_init : List Str := ["self", "steps", "tongue", "step"]
theorem sc_Script_init : FnScope N_Script_init ["self", "steps", "tongue"] (C8.fnScope s_Script_init) := C8.fnScope_by (by decide +kernel)
abbrev s_Script_eq : Stmt := (C8.clsBody (topS 68)).getD 1 (.Pass ⟨0, 0, 0, 0⟩)
def N_Script_eq : List Str := ["self", "other"]
theorem sc_Script_eq : FnScope N_Script_eq ["self", "other"] (C8.fnScope s_Script_eq) := C8.fnScope_by (by decide +kernel)
abbrev s_checkSteps : Stmt := topS 69
def N_checkSteps : List Str := ["steps", "tongue", "number", "step"]
theorem sc_checkSteps : FnScope N_checkSteps ["steps", "tongue"] (C8.fnScope s_checkSteps) := C8.fnScope_by (by decide +kernel)
abbrev s_growthOf : Stmt := topS 70
def N_growthOf : List Str := ["step"]
theorem sc_growthOf : FnScope N_growthOf ["step"] (C8.fnScope s_growthOf) := C8.fnScope_by (by decide +kernel)
abbrev s_pen : Stmt := topS 72
def N_pen : List Str := ["_law_script", "_law_fold", "_law_cell"]
theorem sc_pen : FnScope N_pen ["_law_script"] (C8.fnScope s_pen) := C8.fnScope_by (by decide +kernel)
abbrev s_draw : Stmt := topS 73
def N_draw : List Str := ["_law_pen_here", "_law_many", "_law_cell", "_law_digit", "_law_mixed"]
theorem sc_draw : FnScope N_draw ["_law_pen_here", "_law_many"] (C8.fnScope s_draw) := C8.fnScope_by (by decide +kernel)
abbrev s_pick : Stmt := topS 74
def N_pick : List Str := ["_law_pen_here", "_law_some"]
theorem sc_pick : FnScope N_pick ["_law_pen_here", "_law_some"] (C8.fnScope s_pick) := C8.fnScope_by (by decide +kernel)
abbrev s_signs : Stmt := topS 75
def N_signs : List Str := ["_law_pen_here"]
theorem sc_signs : FnScope N_signs ["_law_pen_here"] (C8.fnScope s_signs) := C8.fnScope_by (by decide +kernel)
abbrev s_lawWord : Stmt := topS 76
def N_lawWord : List Str := ["_law_pen_here", "_law_signs_here", "_law_most", "_law_k"]
theorem sc_lawWord : FnScope N_lawWord ["_law_pen_here", "_law_signs_here", "_law_most"] (C8.fnScope s_lawWord) := C8.fnScope_by (by decide +kernel)
abbrev s_patch : Stmt := topS 77
def N_patch : List Str := ["_law_pen_here", "_law_signs_here", "_law_most"]
theorem sc_patch : FnScope N_patch ["_law_pen_here", "_law_signs_here", "_law_most"] (C8.fnScope s_patch) := C8.fnScope_by (by decide +kernel)
abbrev s_lawPlainTest : Stmt := topS 78
def N_lawPlainTest : List Str := ["_law_pen_here", "_law_signs_here", "_law_words", "_law_word_here", "_law_argument"]
theorem sc_lawPlainTest : FnScope N_lawPlainTest ["_law_pen_here", "_law_signs_here"] (C8.fnScope s_lawPlainTest) := C8.fnScope_by (by decide +kernel)
abbrev s_lawTest : Stmt := topS 79
def N_lawTest : List Str := ["_law_pen_here", "_law_signs_here", "_law_check"]
theorem sc_lawTest : FnScope N_lawTest ["_law_pen_here", "_law_signs_here"] (C8.fnScope s_lawTest) := C8.fnScope_by (by decide +kernel)
abbrev s_lawStep : Stmt := topS 80
def N_lawStep : List Str := ["_law_pen_here", "_law_signs_here", "_law_words", "_law_word_here", "_law_old", "_law_new", "_law_check", "_law_wide"]
theorem sc_lawStep : FnScope N_lawStep ["_law_pen_here", "_law_signs_here"] (C8.fnScope s_lawStep) := C8.fnScope_by (by decide +kernel)
abbrev s_lawGrowth : Stmt := topS 81
def N_lawGrowth : List Str := ["_law_steps", "_law_found", "_law_word_here", "_law_old", "_law_new", "_law_sort", "_law_check", "_law_guard"]
theorem sc_lawGrowth : FnScope N_lawGrowth ["_law_steps"] (C8.fnScope s_lawGrowth) := C8.fnScope_by (by decide +kernel)
abbrev s_testMade : Stmt := topS 82
def N_testMade : List Str := ["_law_check", "_law_word_here", "_law_argument", "_law_first", "_law_second", "_law_negated", "_law_found"]
theorem sc_testMade : FnScope N_testMade ["_law_check"] (C8.fnScope s_testMade) := C8.fnScope_by (by decide +kernel)
abbrev s_stepMade : Stmt := topS 83
def N_stepMade : List Str := ["_law_step_here", "_law_word_here", "_law_old", "_law_new", "_law_sort", "_law_check", "_law_guard", "_law_made"]
theorem sc_stepMade : FnScope N_stepMade ["_law_step_here"] (C8.fnScope s_stepMade) := C8.fnScope_by (by decide +kernel)
abbrev s_refused : Stmt := topS 84
def N_refused : List Str := ["_law_steps", "_law_reading", "e"]
theorem sc_refused : FnScope N_refused ["_law_steps", "_law_reading"] (C8.fnScope s_refused) := C8.fnScope_by (by decide +kernel)
abbrev s_drawnSteps : Stmt := topS 85
def N_drawnSteps : List Str := ["_law_pen_here", "_law_signs_here", "_law_found", "_law_k", "_law_way", "_law_step_here"]
theorem sc_drawnSteps : FnScope N_drawnSteps ["_law_pen_here", "_law_signs_here"] (C8.fnScope s_drawnSteps) := C8.fnScope_by (by decide +kernel)
abbrev s_madeOrNot : Stmt := topS 86
def N_madeOrNot : List Str := ["_law_step_here"]
theorem sc_madeOrNot : FnScope N_madeOrNot ["_law_step_here"] (C8.fnScope s_madeOrNot) := C8.fnScope_by (by decide +kernel)
abbrev s_due : Stmt := topS 87
def N_due : List Str := ["_law_steps", "_law_reading", "_law_wrong", "_law_sorts", "_law_growth_here", "_law_k"]
theorem sc_due : FnScope N_due ["_law_steps", "_law_reading"] (C8.fnScope s_due) := C8.fnScope_by (by decide +kernel)
abbrev s_areTonguesRight : Stmt := topS 88
def N_areTonguesRight : List Str := ["_law_pen_here", "_law_rules", "_law_others", "_law_steps", "_law_one", "_law_two"]
theorem sc_areTonguesRight : FnScope N_areTonguesRight ["_law_pen_here"] (C8.fnScope s_areTonguesRight) := C8.fnScope_by (by decide +kernel)
abbrev s_law : Stmt := topS 89
def N_law : List Str := ["_law_script", "_law_pen_here", "_law_signs_here", "_law_turn", "_law_steps", "_law_made", "_law_reading", "_law_due_here", "_law_one", "_law_two", "_law_step_here"]
theorem sc_law : FnScope N_law ["_law_script"] (C8.fnScope s_law) := C8.fnScope_by (by decide +kernel)
structure Tx (K : PySem.W.Frag) (w : World) (mg : Str → Option Value) : Prop where
  z_str : mg "str" = none
  z_isinstance : mg "isinstance" = none
  z_all : mg "all" = none
  z_len : mg "len" = none
  z_bool : mg "bool" = none
  z_int : mg "int" = none
  z_enumerate : mg "enumerate" = none
  z_tuple : mg "tuple" = none
  z_any : mg "any" = none
  z_max : mg "max" = none
  z_range : mg "range" = none
  z_sorted : mg "sorted" = none
  z_sum : mg "sum" = none
  z_list : mg "list" = none
  g_KIND_LETTERS : ∃ d, (∃ u, mg "KIND_LETTERS" = some u ∧ RelV (.ref d) u) ∧ KD K w d kd_KIND_LETTERS
  g_SIGNS : ∃ u, mg "SIGNS" = some u ∧ RelV (.str (S signsL)) u
  g_LONGEST_WORD : ∃ u, mg "LONGEST_WORD" = some u ∧ RelV (.int 6) u
  g_WORD_TESTS : ∃ d, (∃ u, mg "WORD_TESTS" = some u ∧ RelV (.ref d) u) ∧ ∀ H : Hp, SqT K H d [.str "begins", .str "ends", .str "has", .str "is"]
  g_NUMBER_TESTS : ∃ d, (∃ u, mg "NUMBER_TESTS" = some u ∧ RelV (.ref d) u) ∧ ∀ H : Hp, SqT K H d [.str "short", .str "number"]
  g_BARE_TESTS : ∃ d, (∃ u, mg "BARE_TESTS" = some u ∧ RelV (.ref d) u) ∧ ∀ H : Hp, SqT K H d [.str "all", .str "last"]
  g_BOUNDS : ∃ d, (∃ u, mg "BOUNDS" = some u ∧ RelV (.ref d) u) ∧ ∃ a b, KD K w d (fun z => if z = "short" then some (.ref a) else if z = "number" then some (.ref b) else none) ∧ (∀ H : Hp, SqT K H a [.int 0, .int 40]) ∧ ∀ H : Hp, SqT K H b [.int 1, .int 6]
  g_MOST_RULES : ∃ u, mg "MOST_RULES" = some u ∧ RelV (.int 6) u
  g_LONGEST_MARK : ∃ u, mg "LONGEST_MARK" = some u ∧ RelV (.int 4) u
  g_MARK_SIGNS : ∃ u, mg "MARK_SIGNS" = some u ∧ RelV (.str (S [33, 34, 35, 36, 38, 39, 40, 41, 42, 43, 44, 45, 46, 47, 58, 59, 60, 61, 62, 63, 64, 91, 92, 93, 94, 96, 123, 124, 125, 126])) u
  g_KINDS : ∃ d, (∃ u, mg "KINDS" = some u ∧ RelV (.ref d) u) ∧ ∀ H : Hp, SqT K H d [.str "remark", .str "quote"]
  g_DEPTHS : ∃ d, (∃ u, mg "DEPTHS" = some u ∧ RelV (.ref d) u) ∧ ∀ H : Hp, SqT K H d [.str "2", .str "3", .str "4"]
  g_OPTIONS : ∃ d, (∃ u, mg "OPTIONS" = some u ∧ RelV (.ref d) u) ∧ (∀ H : Hp, SqT K H d [.str "nested", .str "escape", .str "doubled", .str "line"]) ∧ ∃ o, K.lookup d = some o ∧ o.cls = .type "tuple" ∧ o.dict = none
  g_CODE : ∃ d, (∃ u, mg "CODE" = some u ∧ RelV (.ref d) u) ∧ ∀ H : Hp, SqT K H d [.int (-1), .int (0), .int (0)]
  g_MOST_STEPS : ∃ u, mg "MOST_STEPS" = some u ∧ RelV (.int 6) u
  g_MOST_GROWTH : ∃ u, mg "MOST_GROWTH" = some u ∧ RelV (.int 36) u
end Vf

set_option maxRecDepth 100000
set_option maxHeartbeats 4000000
namespace Vf
open PySem PySem.Spec PyProof.Rows L2 SX
section
variable {K : PySem.W.Frag} {C a : Addr} {H : Hp} {Q : VK} {rt : VK}
abbrev Qx (C a : Addr) (H : Hp) (Q : VK) (fs : List (Str × V)) : Prop := ∀ (d : Addr) (H2 : Hp), H d = none → d ≠ a → H2 a = some (exo a C (some d)) → H2 d = some (exd d fs) → (∀ b o, b ≠ a → H b = some o → H2 b = some o) → (∀ b, H2 b = none → H b = none) → Q .non H2
theorem inx1 {f : Str} {y : V} {σ : L2.St} (O : OexC K C) (no : ∀ g ∈ [f], PySem.W.findIn K (.ref C) g = some none) (ha : H a = some (exo a C none)) (q : Qx C a H Q ([f].zip [y]).reverse)
    (s0 : σ[0]? = some (some (.ref a))) (s1 : σ[1]? = some (some y)) : tOst K f (tVar 0) (tVar 1) { nx := fun _ h => Q .non h, rt := rt } σ H := by
  refine ⟨y, s1, .ref a, s0, a, C, rfl, O, no f (List.mem_singleton.mpr rfl), .inl ⟨ha, fun d hd nd => q d _ hd nd upd_same (by rw [upd_ne nd]; exact upd_same) (fun b o n z => by rw [upd_ne n, upd_ne (ne_of_none z hd)]; exact z) (fun b z => ?_)⟩⟩
  by_cases e1 : b = a
  · subst e1; rw [upd_same] at z; cases z
  · rw [upd_ne e1] at z
    by_cases e2 : b = d
    · subst e2; exact hd
    · rw [upd_ne e2] at z; exact z
theorem inx2 {f1 f2 : Str} {y1 y2 : V} {σ : L2.St} (O : OexC K C) (no : ∀ g ∈ [f1, f2], PySem.W.findIn K (.ref C) g = some none) (ha : H a = some (exo a C none)) (q : Qx C a H Q ([f1, f2].zip [y1, y2]).reverse) :
    σ[0]? = some (some (.ref a)) → σ[1]? = some (some y1) → σ[2]? = some (some y2) → tSeq (tOst K f1 (tVar 0) (tVar 1)) (tOst K f2 (tVar 0) (tVar 2)) { nx := fun _ h => Q .non h, rt := rt } σ H := by
  intro s0 s1 s2
  refine ⟨y1, s1, .ref a, s0, a, C, rfl, O, no f1 (by simp), .inl ⟨ha, fun d hd nd => ?_⟩⟩
  have e1 : (upd (upd H d (exd d [(f1, y1)])) a (exo a C (some d))) a = some (exo a C (some d)) := upd_same
  have e2 : (upd (upd H d (exd d [(f1, y1)])) a (exo a C (some d))) d = some (exd d [(f1, y1)]) := by rw [upd_ne nd]; exact upd_same
  refine ⟨y2, s2, .ref a, s0, a, C, rfl, O, no f2 (by simp), .inr ⟨d, [(f1, y1)], e1, e2, by show 1 ≤ 900; omega, ?_⟩⟩
  refine q d _ hd nd (by rw [upd_ne nd.symm]; exact e1) upd_same (fun b o n z => ?_) (fun b z => ?_)
  · rw [upd_ne (ne_of_none z hd), upd_ne n, upd_ne (ne_of_none z hd)]; exact z
  · by_cases g1 : b = d
    · subst g1; exact hd
    · rw [upd_ne g1] at z
      by_cases g2 : b = a
      · subst g2; rw [upd_same] at z; cases z
      · rw [upd_ne g2, upd_ne g1] at z; exact z
theorem inx3 {f1 f2 f3 : Str} {y1 y2 y3 : V} {σ : L2.St} (O : OexC K C) (no : ∀ g ∈ [f1, f2, f3], PySem.W.findIn K (.ref C) g = some none) (ha : H a = some (exo a C none)) (q : Qx C a H Q ([f1, f2, f3].zip [y1, y2, y3]).reverse) :
    σ[0]? = some (some (.ref a)) → σ[1]? = some (some y1) → σ[2]? = some (some y2) → σ[3]? = some (some y3) → tSeq (tOst K f1 (tVar 0) (tVar 1)) (tSeq (tOst K f2 (tVar 0) (tVar 2)) (tOst K f3 (tVar 0) (tVar 3))) { nx := fun _ h => Q .non h, rt := rt } σ H := by
  intro s0 s1 s2 s3
  refine ⟨y1, s1, .ref a, s0, a, C, rfl, O, no f1 (by simp), .inl ⟨ha, fun d hd nd => ?_⟩⟩
  have e1 : (upd (upd H d (exd d [(f1, y1)])) a (exo a C (some d))) a = some (exo a C (some d)) := upd_same
  have e2 : (upd (upd H d (exd d [(f1, y1)])) a (exo a C (some d))) d = some (exd d [(f1, y1)]) := by rw [upd_ne nd]; exact upd_same
  refine ⟨y2, s2, .ref a, s0, a, C, rfl, O, no f2 (by simp), .inr ⟨d, [(f1, y1)], e1, e2, by show 1 ≤ 900; omega, ?_⟩⟩
  have e3 : (upd (upd (upd H d (exd d [(f1, y1)])) a (exo a C (some d))) d (exd d [(f2, y2), (f1, y1)])) a = some (exo a C (some d)) := by rw [upd_ne nd.symm]; exact e1
  have e4 : (upd (upd (upd H d (exd d [(f1, y1)])) a (exo a C (some d))) d (exd d [(f2, y2), (f1, y1)])) d = some (exd d [(f2, y2), (f1, y1)]) := upd_same
  refine ⟨y3, s3, .ref a, s0, a, C, rfl, O, no f3 (by simp), .inr ⟨d, [(f2, y2), (f1, y1)], e3, e4, by show 2 ≤ 900; omega, ?_⟩⟩
  refine q d _ hd nd (by rw [upd_ne nd.symm]; exact e3) upd_same (fun b o n z => ?_) (fun b z => ?_)
  · rw [upd_ne (ne_of_none z hd), upd_ne (ne_of_none z hd), upd_ne n, upd_ne (ne_of_none z hd)]; exact z
  · by_cases g1 : b = d
    · subst g1; exact hd
    · rw [upd_ne g1, upd_ne g1] at z
      by_cases g2 : b = a
      · subst g2; rw [upd_same] at z; cases z
      · rw [upd_ne g2, upd_ne g1] at z; exact z
end
abbrev i_BadText : Stmt := (C8.clsBody (topS 3)).getD 0 (.Pass ⟨0, 0, 0, 0⟩)
theorem si_BadText : FnScope ["self", "line", "column"] ["self", "line", "column"] (C8.fnScope i_BadText) := C8.fnScope_by (by decide +kernel)
theorem ini_BadText {P : Program} {w : World} {K : PySem.W.Frag} {mg : Str → Option Value} {base : Heap} {C f : Addr} {fd : FuncData} {q : Str} (O : OexC K C) (no : ∀ f ∈ (["line", "column"] : List Str), PySem.W.findIn K (.ref C) f = some none) (F : C8.Fun K "__init__" q i_BadText f fd) : FnOk P w K mg base C8.CX0 1 f fd ["self", "line", "column"] (sp_inx C ["line", "column"]) := by
  refine C8.fn0 F si_BadText (fun vs H Q E h => ?_) (fun cdv A outer s H vs Q E hr h => ?_)
  · obtain ⟨a, ys, rfl, h, _⟩ := h; exact congrArg (· + 1) h
  refine ⟨_, (pss_cons (ps_ost (pv 0) (pv 1)) (pss_one (ps_ost (pv 0) (pv 2)))), ?_⟩
  obtain ⟨a, ys, rfl, hl, ha, q⟩ := h
  match ys, hl with
  | [y0, y1], _ =>
    exact inx2 O no ha q rfl rfl rfl
abbrev i_BadWord : Stmt := (C8.clsBody (topS 4)).getD 0 (.Pass ⟨0, 0, 0, 0⟩)
theorem si_BadWord : FnScope ["self", "what"] ["self", "what"] (C8.fnScope i_BadWord) := C8.fnScope_by (by decide +kernel)
theorem ini_BadWord {P : Program} {w : World} {K : PySem.W.Frag} {mg : Str → Option Value} {base : Heap} {C f : Addr} {fd : FuncData} {q : Str} (O : OexC K C) (no : ∀ f ∈ (["what"] : List Str), PySem.W.findIn K (.ref C) f = some none) (F : C8.Fun K "__init__" q i_BadWord f fd) : FnOk P w K mg base C8.CX0 1 f fd ["self", "what"] (sp_inx C ["what"]) := by
  refine C8.fn0 F si_BadWord (fun vs H Q E h => ?_) (fun cdv A outer s H vs Q E hr h => ?_)
  · obtain ⟨a, ys, rfl, h, _⟩ := h; exact congrArg (· + 1) h
  refine ⟨_, (pss_one (ps_ost (pv 0) (pv 1))), ?_⟩
  obtain ⟨a, ys, rfl, hl, ha, q⟩ := h
  match ys, hl with
  | [y0], _ =>
    exact inx1 O no ha q rfl rfl
abbrev i_BadNumber : Stmt := (C8.clsBody (topS 5)).getD 0 (.Pass ⟨0, 0, 0, 0⟩)
theorem si_BadNumber : FnScope ["self", "what", "number"] ["self", "what", "number"] (C8.fnScope i_BadNumber) := C8.fnScope_by (by decide +kernel)
theorem ini_BadNumber {P : Program} {w : World} {K : PySem.W.Frag} {mg : Str → Option Value} {base : Heap} {C f : Addr} {fd : FuncData} {q : Str} (O : OexC K C) (no : ∀ f ∈ (["what", "number"] : List Str), PySem.W.findIn K (.ref C) f = some none) (F : C8.Fun K "__init__" q i_BadNumber f fd) : FnOk P w K mg base C8.CX0 1 f fd ["self", "what", "number"] (sp_inx C ["what", "number"]) := by
  refine C8.fn0 F si_BadNumber (fun vs H Q E h => ?_) (fun cdv A outer s H vs Q E hr h => ?_)
  · obtain ⟨a, ys, rfl, h, _⟩ := h; exact congrArg (· + 1) h
  refine ⟨_, (pss_cons (ps_ost (pv 0) (pv 1)) (pss_one (ps_ost (pv 0) (pv 2)))), ?_⟩
  obtain ⟨a, ys, rfl, hl, ha, q⟩ := h
  match ys, hl with
  | [y0, y1], _ =>
    exact inx2 O no ha q rfl rfl rfl
abbrev i_BadStep : Stmt := (C8.clsBody (topS 6)).getD 0 (.Pass ⟨0, 0, 0, 0⟩)
theorem si_BadStep : FnScope ["self", "number"] ["self", "number"] (C8.fnScope i_BadStep) := C8.fnScope_by (by decide +kernel)
theorem ini_BadStep {P : Program} {w : World} {K : PySem.W.Frag} {mg : Str → Option Value} {base : Heap} {C f : Addr} {fd : FuncData} {q : Str} (O : OexC K C) (no : ∀ f ∈ (["number"] : List Str), PySem.W.findIn K (.ref C) f = some none) (F : C8.Fun K "__init__" q i_BadStep f fd) : FnOk P w K mg base C8.CX0 1 f fd ["self", "number"] (sp_inx C ["number"]) := by
  refine C8.fn0 F si_BadStep (fun vs H Q E h => ?_) (fun cdv A outer s H vs Q E hr h => ?_)
  · obtain ⟨a, ys, rfl, h, _⟩ := h; exact congrArg (· + 1) h
  refine ⟨_, (pss_one (ps_ost (pv 0) (pv 1))), ?_⟩
  obtain ⟨a, ys, rfl, hl, ha, q⟩ := h
  match ys, hl with
  | [y0], _ =>
    exact inx1 O no ha q rfl rfl
abbrev i_TooMany : Stmt := (C8.clsBody (topS 7)).getD 0 (.Pass ⟨0, 0, 0, 0⟩)
theorem si_TooMany : FnScope ["self", "what", "many", "limit"] ["self", "what", "many", "limit"] (C8.fnScope i_TooMany) := C8.fnScope_by (by decide +kernel)
theorem ini_TooMany {P : Program} {w : World} {K : PySem.W.Frag} {mg : Str → Option Value} {base : Heap} {C f : Addr} {fd : FuncData} {q : Str} (O : OexC K C) (no : ∀ f ∈ (["what", "many", "limit"] : List Str), PySem.W.findIn K (.ref C) f = some none) (F : C8.Fun K "__init__" q i_TooMany f fd) : FnOk P w K mg base C8.CX0 1 f fd ["self", "what", "many", "limit"] (sp_inx C ["what", "many", "limit"]) := by
  refine C8.fn0 F si_TooMany (fun vs H Q E h => ?_) (fun cdv A outer s H vs Q E hr h => ?_)
  · obtain ⟨a, ys, rfl, h, _⟩ := h; exact congrArg (· + 1) h
  refine ⟨_, (pss_cons (ps_ost (pv 0) (pv 1)) (pss_cons (ps_ost (pv 0) (pv 2)) (pss_one (ps_ost (pv 0) (pv 3))))), ?_⟩
  obtain ⟨a, ys, rfl, hl, ha, q⟩ := h
  match ys, hl with
  | [y0, y1, y2], _ =>
    exact inx3 O no ha q rfl rfl rfl rfl
abbrev i_NoTongue : Stmt := (C8.clsBody (topS 8)).getD 0 (.Pass ⟨0, 0, 0, 0⟩)
theorem si_NoTongue : FnScope ["self", "number"] ["self", "number"] (C8.fnScope i_NoTongue) := C8.fnScope_by (by decide +kernel)
theorem ini_NoTongue {P : Program} {w : World} {K : PySem.W.Frag} {mg : Str → Option Value} {base : Heap} {C f : Addr} {fd : FuncData} {q : Str} (O : OexC K C) (no : ∀ f ∈ (["number"] : List Str), PySem.W.findIn K (.ref C) f = some none) (F : C8.Fun K "__init__" q i_NoTongue f fd) : FnOk P w K mg base C8.CX0 1 f fd ["self", "number"] (sp_inx C ["number"]) := by
  refine C8.fn0 F si_NoTongue (fun vs H Q E h => ?_) (fun cdv A outer s H vs Q E hr h => ?_)
  · obtain ⟨a, ys, rfl, h, _⟩ := h; exact congrArg (· + 1) h
  refine ⟨_, (pss_one (ps_ost (pv 0) (pv 1))), ?_⟩
  obtain ⟨a, ys, rfl, hl, ha, q⟩ := h
  match ys, hl with
  | [y0], _ =>
    exact inx1 O no ha q rfl rfl
structure Es (P : Program) (w : World) (K : PySem.W.Frag) (mg : Str → Option Value) (base : Heap) (CBadText CBadWord CBadNumber CBadStep CTooMany CNoTongue CW : Addr) : Prop where
  r_BadText : Rk P w K mg base "BadText" CBadText ["line", "column"]
  r_BadWord : Rk P w K mg base "BadWord" CBadWord ["what"]
  r_BadNumber : Rk P w K mg base "BadNumber" CBadNumber ["what", "number"]
  r_BadStep : Rk P w K mg base "BadStep" CBadStep ["number"]
  r_TooMany : Rk P w K mg base "TooMany" CTooMany ["what", "many", "limit"]
  r_NoTongue : Rk P w K mg base "NoTongue" CNoTongue ["number"]
  g_WorkshopError : mg "WorkshopError" = some (.ref CW)
  e11 : PySem.W.exmOne K (.ref CTooMany) (.ref CTooMany) = some true
  e21 : PySem.W.exmOne K (.ref CBadStep) (.ref CTooMany) = some false
  e22 : PySem.W.exmOne K (.ref CBadStep) (.ref CBadStep) = some true
  e31 : PySem.W.exmOne K (.ref CNoTongue) (.ref CTooMany) = some false
  e32 : PySem.W.exmOne K (.ref CNoTongue) (.ref CBadStep) = some false
  e33 : PySem.W.exmOne K (.ref CNoTongue) (.ref CNoTongue) = some true
  e41 : PySem.W.exmOne K (.ref CBadWord) (.ref CTooMany) = some false
  e42 : PySem.W.exmOne K (.ref CBadWord) (.ref CBadStep) = some false
  e43 : PySem.W.exmOne K (.ref CBadWord) (.ref CNoTongue) = some false
  e44 : PySem.W.exmOne K (.ref CBadWord) (.ref CBadWord) = some true
  cS : ExcC K CBadStep
  cN : ExcC K CNoTongue
  cB : ExcC K CBadWord
  tS : PySem.W.kitOne K (.ref CBadStep) (.ref CW) = some true
  tN : PySem.W.kitOne K (.ref CNoTongue) (.ref CW) = some true
  tB : PySem.W.kitOne K (.ref CBadWord) (.ref CW) = some true
end Vf

set_option maxRecDepth 100000
set_option maxHeartbeats 4000000
namespace Vf
open PySem PySem.Spec PyProof.Rows L2 SX
section
variable {P : Program} {w : World} {K : PySem.W.Frag} {mg : Str → Option Value} {base : Heap}
/-! ### the promises -/
def spPost (p c : Addr) (m k : Nat) (H : Hp) (R : V → Hp → Prop) (Q : VK) : Prop := ∀ (H' : Hp) (v : V), Ks H H' → PenAt H' p c (m + k) → R v H' → Q v H'
def sp_pen (K : PySem.W.Frag) : Sp := fun vs H Q _ => ∃ (a : Addr) (ns : List Int), vs = [.ref a] ∧ SqL K H a (ns.map V.int) ∧ ns.length ≤ 63 ∧ ∀ (H' : Hp) (p c : Addr), Ks H H' → PenAt H' p c 0 → Q (.ref p) H'
def sp_draw : Sp := fun vs H Q _ => ∃ (p c : Addr) (m n : Nat), vs = [.ref p, .int (n : Int)] ∧ PenAt H p c m ∧ m < 1000000 ∧ 1 ≤ n ∧ n < 1073741824 ∧ ∀ (H' : Hp) (r : Nat), Ks H H' → PenAt H' p c (m + 1) → r < n → Q (.int (r : Int)) H'
def sp_pick : Sp := fun vs H Q _ => ∃ (p c : Addr) (m : Nat) (x : V), vs = [.ref p, x] ∧ PenAt H p c m ∧ m < 1000000 ∧
  ((∃ l : List Nat, x = .str (S l) ∧ 1 ≤ l.length ∧ l.length ≤ 1000000 ∧ ∀ (H' : Hp) (ch : Nat), Ks H H' → PenAt H' p c (m + 1) → ch ∈ l → Q (.str (S [ch])) H') ∨
   ∃ (a : Addr) (xs : List V), x = .ref a ∧ H a = some (.lst xs) ∧ 1 ≤ xs.length ∧ xs.length ≤ 1000000 ∧ ∀ (H' : Hp) (v : V), Ks H H' → PenAt H' p c (m + 1) → v ∈ xs → Q v H')

/-! ### a comprehension over a range whose element draws -/
theorem lc_pen {p c : Addr} {m0 n s : Nat} {te : TE} {k : Nat} {σ : L2.St} {H1 : Hp} {D : Addr} {Qd : Hp → Prop} (R : V → Hp → Prop) (stab : ∀ v H H', Tk H H' → R v H → R v H') (hk : k < σ.length) (hD : H1 D = none) (hp : PenAt H1 p c m0) (hn : n ≤ 1000000)
    (hs : ∀ (i : Nat) (H : Hp) (m : Nat) (Q : VK), i < n → PenAt H p c m → m ≤ m0 + i * s → (∀ (H' : Hp) (v : V), Ks H H' → PenAt H' p c (m + s) → R v H' → Q v H') → te ((wipe σ [k]).set k (some (.int ((0 : Int) + i)))) H Q)
    (hd : ∀ (H : Hp) (xs : List V), xs.length = n → (∀ v ∈ xs, R v H) → H D = some (.lst xs) → Ks H1 H → PenAt H p c (m0 + n * s) → Qd H) :
    ∃ W : Nat → Nat → Hp → Prop, (∃ m, W 0 m (upd H1 D (.lst []))) ∧ ∀ i m H, W i m H →
      ((Itr 0 n).stop i H ∧ Qd H) ∨ ((Itr 0 n).go i H ∧ ∃ Nx : Hp → Prop, (∀ H', Nx H' → ∃ m', m' < m ∧ W (i + 1) m' H') ∧ ∀ x H', (Itr 0 n).yld i H x H' → gName k x (wipe σ [k]) H' fun σ2 H2 => wipe σ2 [k] = wipe σ [k] ∧ tYes σ2 H2 fun b H3 =>
        if b = true then te σ2 H3 fun y H4 => ∃ acc, H4 D = some (.lst acc) ∧ acc.length < sizeLine ∧ Nx (upd H4 D (.lst (acc ++ [y]))) else Nx H3) := by
  have nD := hp.ne hD
  refine lc_range (lo := 0) (n := n) (fun i H => ∃ xs : List V, xs.length = i ∧ (∀ v ∈ xs, R v H) ∧ H D = some (.lst xs) ∧ Ks H1 H ∧ PenAt H p c (m0 + i * s)) ?_ ?_ ?_
  · exact ⟨[], rfl, (fun _ h => nomatch h), upd_same, Ks.new1 hD _, by rw [Nat.zero_mul]; exact hp.new hD⟩
  · rintro i H hi ⟨xs, e1, e2, e3, e4, e5⟩
    refine ⟨?_, ?_⟩
    · show ((σ.set k none).set k _).set k none = (σ.set k none)
      rw [List.set_set, List.set_set]
    · dsimp only [tYes]
      rw [if_pos rfl]
      refine hs i H _ _ hi e5 (Nat.le_refl _) (fun H' v k1 k2 k3 => ?_)
      refine ⟨xs, k1.lst e3, szL (by omega), xs ++ [v], by rw [List.length_append, e1]; rfl, fun u hu => ?_, upd_same, (e4.trans k1).upd hD _, ?_⟩
      · have tk : Tk H' (upd H' D (.lst (xs ++ [v]))) := (Tk.refl H').lst (k1.lst e3)
        rcases List.mem_append.mp hu with hu | hu
        · exact stab _ _ _ (k1.tk.trans tk) (e2 u hu)
        · rw [List.mem_singleton.mp hu]
          exact stab _ _ _ tk k3
      · rw [Nat.succ_mul, ← Nat.add_assoc]
        exact k2.upd nD.1 nD.2
  · rintro H ⟨xs, e1, e2, e3, e4, e5⟩
    exact hd H xs e1 e2 e3 e4 e5
/-- a list of one-sign texts -/
def Ones (P : Nat → Prop) (v : V) : Prop := ∃ ch, v = .str (S [ch]) ∧ P ch
theorem ones_of {P : Nat → Prop} : ∀ {xs : List V}, (∀ v ∈ xs, Ones P v) → ∃ t : List Nat, xs = ((t.map fun c => S [c]).map V.str) ∧ (∀ c ∈ t, P c)
  | [], _ => ⟨[], rfl, fun _ h => nomatch h⟩
  | v :: xs, h => by
    obtain ⟨t, e, ht⟩ := ones_of (xs := xs) fun u hu => h u (List.mem_cons_of_mem _ hu)
    obtain ⟨ch, e1, e2⟩ := h v (List.mem_cons_self ..)
    refine ⟨ch :: t, by rw [e1, e]; rfl, fun c hc => ?_⟩
    rcases List.mem_cons.mp hc with hc | hc
    · rw [hc]; exact e2
    · exact ht c hc
theorem joinL_ones : ∀ t : List Nat, TL.joinL [] (t.map fun c => [c]) = t
  | [] => rfl
  | [_] => rfl
  | c :: d :: t => by
    show [c] ++ ([] ++ TL.joinL [] ((d :: t).map fun c => [c])) = c :: d :: t
    rw [joinL_ones (d :: t)]
    rfl
theorem join_ones : ∀ t : List Nat, Txt.join (S []) (t.map fun c => S [c]) = S t := fun t => by
  have e : (t.map fun c => S [c]) = (t.map fun c => [c]).map S := by rw [List.map_map]; rfl
  rw [e, join_S]
  exact congrArg S (joinL_ones t)
theorem ones_len : ∀ t : List Nat, ((t.map fun c => S [c]).map (·.length)).sum = t.length
  | [] => rfl
  | c :: t => by
    have := ones_len t
    show 1 + ((t.map fun c => S [c]).map (·.length)).sum = t.length + 1
    omega
theorem ones_bound {t : List Nat} (h : t.length ≤ 1000000) : ((t.map fun c => S [c]).map (·.length)).sum + (t.map fun c => S [c]).length * (S []).length ≤ 16777216 := by
  rw [ones_len]
  show t.length + _ * 0 ≤ 16777216
  omega

theorem same_new {H0 H : Hp} {p : Addr} (s : Same H0 H) (h : H p = none) (o : HO) : Same H0 (upd H p o) := fun b u e => by
  rw [upd_ne (ne_of_none (s b u e) h)]
  exact s b u e
theorem same_upd {H0 H : Hp} {p : Addr} (s : Same H0 H) (h : H0 p = none) (o : HO) : Same H0 (upd H p o) := fun b u e => by
  rw [upd_ne (ne_of_none e h)]
  exact s b u e
theorem sz_1 : 1 ≤ sizeLine := by decide
theorem sz_2 : 2 ≤ sizeLine := by decide
theorem sz_3 : 3 ≤ sizeLine := by decide
theorem eq1 (c d : Nat) : decide (V.str (S [c]) = V.str (S [d])) = decide (c = d) := by
  by_cases h : c = d
  · subst h
    rw [decide_eq_true rfl, decide_eq_true rfl]
  · rw [decide_eq_false h]
    exact decide_eq_false fun z => h (List.cons.inj (S_inj (V.str.inj z))).1
def isS (c : Nat) : Bool := decide (c ∈ signsL)
def NotStr (K : PySem.W.Frag) (H : Hp) (x : V) : Prop := ∃ t, TyX K H x t ∧ PySem.W.kitOne K t (.type "str") = some false
theorem ifT {A B : Prop} (h : A) : if (true : Bool) = true then A else B := by rw [if_pos rfl]; exact h
theorem ifF {A B : Prop} (h : B) : if (false : Bool) = true then A else B := by rw [if_neg Bool.false_ne_true]; exact h
/-! ### words of rules -/
def mkL : List Nat := [33, 34, 35, 36, 38, 39, 40, 41, 42, 43, 44, 45, 46, 47, 58, 59, 60, 61, 62, 63, 64, 91, 92, 93, 94, 96, 123, 124, 125, 126]
def isMk (w : Str) : Bool := decide (1 ≤ w.length) && (decide (w.length ≤ 4) && (TL.tl w).all fun c => decide (c ∈ mkL))
def OPTS : List Str := ["nested", "escape", "doubled", "line"]
def optB (ah : List Str) (w : Str) : Bool :=
  if (ah.drop 4).getLast? = some ("nested" : Str) then decide (w ∈ (["2", "3", "4"] : List Str))
  else if (ah.drop 4).getLast? = some ("escape" : Str) then decide (w.length = 1) && isMk w
  else if ("line" : Str) ∈ ah.drop 4 then false
  else if w = "line" then decide (ah.getD 3 "" ≠ "line")
  else if ("doubled" : Str) ∈ ah.drop 4 then false
  else if w = "doubled" then decide (ah.getD 3 "" ≠ "line") && decide (("nested" : Str) ∉ ah.drop 4)
  else if w = "escape" then decide (("escape" : Str) ∉ ah.drop 4)
  else decide (w = "nested") && (decide (ah.drop 4 = []) && (decide (ah.getD 0 "" = "remark") && (decide (ah.getD 3 "" ≠ "line") && decide (ah.getD 3 "" ≠ ah.getD 1 ""))))
/-- what the program asks -/
def optP (ah : List Str) (w : Str) : Bool :=
  if w ∉ OPTS then false
  else if (OPTS.drop (OPTS.idxOf w)).any (fun o => decide (o ∈ ah.drop 4)) = true then false
  else if w = "escape" then true
  else if w = "nested" then decide (ah.getD 0 "" = "remark") && !(decide (ah.getD 3 "" ∈ ([("line" : Str), ah.getD 1 ""] : List Str)))
  else decide (ah.getD 3 "" ≠ "line") && !(decide (w = "doubled") && decide (("nested" : Str) ∈ ah.drop 4))
def FirstOk (ah : List Str) : Prop := ∀ o, (ah.drop 4)[0]? = some o → o ∈ OPTS
theorem optP_eq {ah : List Str} {w : Str} (h : FirstOk ah) (h1 : (ah.drop 4).getLast? ≠ some ("nested" : Str)) (h2 : (ah.drop 4).getLast? ≠ some ("escape" : Str)) : optP ah w = optB ah w := by
  have fst : ∀ {g : List Str}, (∀ o, g[0]? = some o → o ∈ OPTS) → g ≠ [] → ("nested" : Str) ∈ g ∨ ("escape" : Str) ∈ g ∨ ("doubled" : Str) ∈ g ∨ ("line" : Str) ∈ g := by
    intro g hg hn
    cases g with
    | nil => exact absurd rfl hn
    | cons o r =>
      have := hg o rfl
      simp only [OPTS, List.mem_cons, List.not_mem_nil, or_false] at this
      rcases this with rfl | rfl | rfl | rfl
      · exact .inl (.head _)
      · exact .inr (.inl (.head _))
      · exact .inr (.inr (.inl (.head _)))
      · exact .inr (.inr (.inr (.head _)))
  unfold FirstOk at h
  unfold optP optB
  rw [if_neg h1, if_neg h2]
  generalize ah.drop 4 = g at h h1 h2 ⊢
  generalize ah.getD 3 "" = a3
  generalize ah.getD 1 "" = a1
  generalize ah.getD 0 "" = a0
  have d0 : OPTS.drop (OPTS.idxOf ("nested" : Str)) = (["nested", "escape", "doubled", "line"] : List Str) := by decide +kernel
  have d1 : OPTS.drop (OPTS.idxOf ("escape" : Str)) = (["escape", "doubled", "line"] : List Str) := by decide +kernel
  have d2 : OPTS.drop (OPTS.idxOf ("doubled" : Str)) = (["doubled", "line"] : List Str) := by decide +kernel
  have d3 : OPTS.drop (OPTS.idxOf ("line" : Str)) = (["line"] : List Str) := by decide +kernel
  have n1 : ("escape" : Str) ≠ "line" := by decide +kernel
  have n2 : ("escape" : Str) ≠ "doubled" := by decide +kernel
  have n3 : ("nested" : Str) ≠ "line" := by decide +kernel
  have n4 : ("nested" : Str) ≠ "doubled" := by decide +kernel
  have n5 : ("nested" : Str) ≠ "escape" := by decide +kernel
  have n6 : ("doubled" : Str) ≠ "line" := by decide +kernel
  by_cases m : w ∈ OPTS
  · rw [if_neg (by simpa using m)]
    have m' := m
    simp only [OPTS, List.mem_cons, List.not_mem_nil, or_false] at m'
    rcases m' with rfl | rfl | rfl | rfl
    · rw [d0]
      by_cases hg : g = []
      · subst hg
        simp [n3, n4, n5]
      · have f := fst h hg
        have e : (["nested", "escape", "doubled", "line"] : List Str).any (fun o => decide (o ∈ g)) = true := by simpa using f
        rw [if_pos e]
        simp [n3, n4, n5, hg]
    · rw [d1]
      by_cases c1 : ("line" : Str) ∈ g
      · simp [c1]
      · by_cases c2 : ("doubled" : Str) ∈ g
        · simp [c1, c2, n1]
        · by_cases c3 : ("escape" : Str) ∈ g <;> simp [c1, c2, c3, n1, n2]
    · rw [d2]
      by_cases c1 : ("line" : Str) ∈ g
      · simp [c1]
      · by_cases c2 : ("doubled" : Str) ∈ g
        · simp [c1, c2, n6]
        · simp [c1, c2, n6, n2.symm, n4.symm]
    · rw [d3]
      by_cases c1 : ("line" : Str) ∈ g
      · simp [c1]
      · simp [c1, n1.symm, n3.symm, n6.symm]
  · rw [if_pos m]
    have m' := m
    simp only [OPTS, List.mem_cons, List.not_mem_nil, or_false, not_or] at m'
    obtain ⟨x1, x2, x3, x4⟩ := m'
    simp [x1, x2, x3, x4]
def canB (ah : List Str) (w : Str) (os : List Str) : Bool :=
  if ah.length = 0 then decide (w ∈ (["remark", "quote"] : List Str))
  else if ah.length = 1 then isMk w && !(decide (w ∈ os))
  else if ah.length = 2 then decide (w = "to")
  else if ah.length = 3 then decide (w = "line") || isMk w
  else optB ah w
def Vd (ws os : List Str) : Prop := ∀ (i : Nat) (w : Str), ws[i]? = some w → canB (ws.take i) w os = true
theorem vd_nil (os : List Str) : Vd [] os := fun i w h => by cases i <;> cases h
theorem vd_snoc {ws os : List Str} {w : Str} (h : Vd ws os) (c : canB ws w os = true) : Vd (ws ++ [w]) os := fun i u hu => by
  rcases Nat.lt_or_ge i ws.length with hi | hi
  · rw [List.getElem?_append_left hi] at hu
    rw [List.take_append_of_le_length (Nat.le_of_lt hi)]
    exact h i u hu
  · rw [List.getElem?_append_right hi] at hu
    have e : i = ws.length := by
      have := (List.getElem?_eq_some_iff.mp hu).1
      rw [List.length_singleton] at this
      omega
    subst e
    rw [Nat.sub_self] at hu
    cases hu
    rw [List.take_left]
    exact c
theorem mk_letters {w : Str} (h : isMk w = true) : w ≠ "nested" ∧ w ≠ "escape" ∧ w ≠ "line" := by
  refine ⟨fun z => ?_, fun z => ?_, fun z => ?_⟩ <;> subst z <;> revert h <;> decide +kernel
theorem vd_at {ws os : List Str} (h : Vd ws os) {i : Nat} (hi : i < ws.length) : canB (ws.take i) ws[i] os = true := h i _ (List.getElem?_eq_getElem hi)
theorem vd_3 {ws os : List Str} (h : Vd ws os) (hl : 4 ≤ ws.length) : ws[3] = "line" ∨ isMk ws[3] = true := by
  have c := vd_at h (i := 3) (by omega)
  unfold canB at c
  have e : (ws.take 3).length = 3 := by rw [List.length_take]; omega
  rw [e, if_neg (by decide), if_neg (by decide), if_neg (by decide), if_pos rfl, Bool.or_eq_true, decide_eq_true_eq] at c
  exact c
theorem vd_first {ws os : List Str} (h : Vd ws os) : FirstOk ws := fun o ho => by
  rw [List.getElem?_drop] at ho
  have hi := (List.getElem?_eq_some_iff.mp ho).1
  have c := h _ _ ho
  unfold canB at c
  have e : (ws.take (4 + 0)).length = 4 := by rw [List.length_take]; omega
  rw [e, if_neg (by decide), if_neg (by decide), if_neg (by decide), if_neg (by decide)] at c
  have e0 : (ws.take (4 + 0)).drop 4 = [] := List.drop_eq_nil_of_le (by omega)
  unfold optB at c
  rw [e0, if_neg (by simp), if_neg (by simp), if_neg (by simp)] at c
  unfold OPTS
  by_cases c1 : o = "line"
  · subst c1; simp
  · rw [if_neg c1, if_neg (by simp)] at c
    by_cases c2 : o = "doubled"
    · subst c2; simp
    · rw [if_neg c2] at c
      by_cases c3 : o = "escape"
      · subst c3; simp
      · rw [if_neg c3, Bool.and_eq_true, decide_eq_true_eq] at c
        rw [c.1]; simp
/-- the last word, told as the program and the law ask it -/
theorem last_drop {ws : List Str} (hl : 4 < ws.length) : (ws.drop 4).getLast? = ws.getLast? := by
  rw [List.getLast?_drop, if_neg (by omega)]
theorem vd_last {ws os : List Str} (h : Vd ws os) (hl : 4 ≤ ws.length) {o : Str} (ho : o = "nested" ∨ o = "escape") : (ws.getLast? = some o) ↔ (ws.drop 4).getLast? = some o := by
  rcases Nat.lt_or_ge 4 ws.length with g | g
  · rw [last_drop g]
  · have e : ws.length = 4 := by omega
    have e0 : ws.drop 4 = [] := List.drop_eq_nil_of_le g
    rw [e0]
    refine ⟨fun z => ?_, fun z => by cases z⟩
    rw [List.getLast?_eq_getElem?, e] at z
    have := (List.getElem?_eq_some_iff.mp z).2
    have q := vd_3 h hl
    have z3 : ws[3] = o := this
    rw [z3] at q
    rcases q with q | q
    · rcases ho with rfl | rfl <;> revert q <;> decide +kernel
    · have := mk_letters q
      rcases ho with rfl | rfl
      · exact absurd rfl this.1
      · exact absurd rfl this.2.1
/-! ### a line of a tongue -/
def spS (l : Str) : List Str := Txt.split l (" " : Str)
def wcGo (os : List Str) : List Str → List Str → Nat → Option Nat
  | _, [], _ => none
  | ah, w :: r, c => if canB ah w os = true then wcGo os (ah ++ [w]) r (c + (w.length + 1)) else some c
def wcol (l : Str) (os : List Str) : Option Nat :=
  match wcGo os [] (spS l) 1 with
  | some c => some c
  | none => if (spS l).length < 4 ∨ (spS l).getLast? = some ("nested" : Str) ∨ (spS l).getLast? = some ("escape" : Str) then some (l.length + 1) else none
theorem wcGo_vd {os : List Str} : ∀ {r ah : List Str} {c : Nat}, wcGo os ah r c = none → Vd ah os → Vd (ah ++ r) os
  | [], ah, c, _, h => by rw [List.append_nil]; exact h
  | w :: r, ah, c, e, h => by
    unfold wcGo at e
    by_cases q : canB ah w os = true
    · rw [if_pos q] at e
      have := wcGo_vd e (vd_snoc h q)
      rwa [List.append_assoc] at this
    · rw [if_neg q] at e; cases e
def CV (ws os : List Str) : Prop := Vd ws os ∧ 4 ≤ ws.length ∧ ws.getLast? ≠ some ("nested" : Str) ∧ ws.getLast? ≠ some ("escape" : Str)
theorem wcol_cv {l : Str} {os : List Str} (h : wcol l os = none) : CV (spS l) os := by
  unfold wcol at h
  cases e : wcGo os [] (spS l) 1 with
  | some c => rw [e] at h; cases h
  | none =>
    rw [e] at h
    dsimp only at h
    split at h
    · cases h
    · rename_i q
      rw [not_or, not_or] at q
      have := wcGo_vd e (vd_nil os)
      rw [List.nil_append] at this
      exact ⟨this, by omega, q.2.1, q.2.2⟩
def opn (l : Str) : Str := (spS l).getD 1 ""
def fwGo : Nat → List Str → List Str → Option (Nat × Nat)
  | _, [], _ => none
  | k, l :: r, os => if 6 ≤ k then some (k + 1, 1) else match wcol l os with
    | some c => some (k + 1, c)
    | none => fwGo (k + 1) r (os ++ [opn l])
def fw (ls : List Str) : Option (Nat × Nat) := fwGo 0 ls []
def lnsOf (t : Str) : List Str := if t = "" then [] else Txt.split t ("\n" : Str)
/-! ### texts with bounds -/
def GoodS (n : Nat) (z : Str) : Prop := z.length ≤ n ∧ ∀ c ∈ TL.tl z, c ≠ 10 ∧ c < 1000
theorem GoodS.mono {n m : Nat} {z : Str} (h : GoodS n z) (l : n ≤ m) : GoodS m z := ⟨Nat.le_trans h.1 l, h.2⟩
def LnOk (ls : List Str) : Prop := ls.length ≤ 100 ∧ ∀ l ∈ ls, GoodS 1000 l
/-! ### heaps: all but tables stays -/
def ExX (a : Addr) (H H' : Hp) : Prop := ∀ b o, b ≠ a → H b = some o → (∀ ps, o ≠ .tbl ps) → H' b = some o
abbrev lamQ : Str := ("longest_first" ++ ".<locals>." : Str) ++ "<lambda>"
abbrev T0 (P0 : Addr) : List (Addr × Str) := [(P0, lamQ)]
/-! ### the promises -/
def sp_isMark : Sp := fun vs H Q _ => ∃ w : Str, vs = [.str w] ∧ w.length ≤ 1000 ∧ ∀ H', Same H H' → Q (.bl (isMk w)) H'
def ChOk (w : Str) : Prop := ∀ c ∈ TL.tl w, c < 1000
def sp_lawIsMark : Sp := fun vs H Q _ => ∃ w : Str, vs = [.str w] ∧ w.length ≤ 1000 ∧ ChOk w ∧ ∀ H', Same H H' → Q (.bl (isMk w)) H'
def sp_optionCanStand (K : PySem.W.Frag) : Sp := fun vs H Q _ => ∃ (a : Addr) (ws : List Str) (w : Str), vs = [.ref a, .str w] ∧ SqL K H a (ws.map V.str) ∧ 4 ≤ ws.length ∧ ws.length ≤ 2000 ∧ FirstOk ws ∧ (ws.drop 4).getLast? ≠ some ("nested" : Str) ∧ (ws.drop 4).getLast? ≠ some ("escape" : Str) ∧ w.length ≤ 1000 ∧ ∀ H', Same H H' → Q (.bl (optB ws w)) H'
def sp_optionStands (K : PySem.W.Frag) : Sp := fun vs H Q _ => ∃ (a : Addr) (ws : List Str) (w : Str), vs = [.ref a, .str w] ∧ SqL K H a (ws.map V.str) ∧ 4 ≤ ws.length ∧ ws.length ≤ 2000 ∧ (∀ x ∈ ws, ChOk x) ∧ w.length ≤ 1000 ∧ ChOk w ∧ ∀ H', Same H H' → Q (.bl (optB ws w)) H'
def sp_canStand (K : PySem.W.Frag) : Sp := fun vs H Q _ => ∃ (a o : Addr) (ws os : List Str) (w : Str), vs = [.ref a, .str w, .ref o] ∧ SqL K H a (ws.map V.str) ∧ SqL K H o (os.map V.str) ∧ Vd ws os ∧ ws.length ≤ 2000 ∧ w.length ≤ 1000 ∧ ∀ H', Same H H' → Q (.bl (canB ws w os)) H'
def sp_wordStands (K : PySem.W.Frag) : Sp := fun vs H Q _ => ∃ (a o : Addr) (ws os : List Str) (w : Str), vs = [.ref a, .str w, .ref o] ∧ SqL K H a (ws.map V.str) ∧ SqL K H o (os.map V.str) ∧ ws.length ≤ 2000 ∧ (∀ x ∈ ws, ChOk x) ∧ w.length ≤ 1000 ∧ ChOk w ∧ ∀ H', Same H H' → Q (.bl (canB ws w os)) H'
def colV (d : V) : Option Nat → V
  | some c => .int (c : Int)
  | none => d
def sp_wrongColumn (K : PySem.W.Frag) : Sp := fun vs H Q _ => ∃ (o : Addr) (os : List Str) (l : Str), vs = [.str l, .ref o] ∧ SqL K H o (os.map V.str) ∧ l.length ≤ 1000 ∧ ∀ H', Same H H' → Q (colV .non (wcol l os)) H'
def sp_lawWrongColumn (K : PySem.W.Frag) : Sp := fun vs H Q _ => ∃ (o : Addr) (os : List Str) (l : Str), vs = [.str l, .ref o] ∧ SqL K H o (os.map V.str) ∧ GoodS 1000 l ∧ ∀ H', Same H H' → Q (colV (.int 0) (wcol l os)) H'
def fwV (H : Hp) (v : V) : Option (Nat × Nat) → Prop
  | none => v = .non
  | some p => ∃ b, v = .ref b ∧ H b = some (.tup [.int (p.1 : Int), .int (p.2 : Int)])
def sp_firstWrong (K : PySem.W.Frag) : Sp := fun vs H Q _ => ∃ (a : Addr) (ls : List Str), vs = [.ref a] ∧ SqL K H a (ls.map V.str) ∧ LnOk ls ∧ ∀ H' v, Same H H' → fwV H' v (fw ls) → Q v H'
/-! ### rules -/
def ruF (k op cl : Str) (nd : Nat) (es : Str) (db ln : Bool) : List (Str × V) := [("kind", .str k), ("opener", .str op), ("closer", .str cl), ("nested", .int (nd : Int)), ("escape", .str es), ("doubled", .bl db), ("line", .bl ln)]
def RuG (CR : Addr) (H : Hp) (v : V) : Prop := ∃ (a dx : Addr) (k op cl : Str) (nd : Nat) (es : Str) (db ln : Bool), v = .ref a ∧ H a = some (.ins CR dx (ruF k op cl nd es db ln)) ∧ op.length ≤ 4 ∧ cl.length ≤ 4 ∧ nd ≤ 4 ∧ es.length ≤ 4
def sp_Rule_init (K : PySem.W.Frag) (CR : Addr) : Sp := fun vs H Q _ => ∃ (a dx wa : Addr) (ws os : List Str), vs = [.ref a, .ref wa] ∧ H a = some (.ins CR dx []) ∧ SqL K H wa (ws.map V.str) ∧ CV ws os ∧ ws.length ≤ 2000 ∧
  ∀ (k cl : Str) (nd : Nat) (es : Str) (db ln : Bool), cl.length ≤ 4 → nd ≤ 4 → es.length ≤ 4 → ∀ H', (∀ b o, b ≠ a → H b = some o → H' b = some o) → H' a = some (.ins CR dx (ruF k (ws.getD 1 "") cl nd es db ln)) → Q .non H'
def ErT (CT : Addr) (H : Hp) (p : Nat × Nat) (E : XK) : Prop := ∀ (d : Addr) (H' : Hp), Same H H' → H' d = some (.xd [("column", .int (p.2 : Int)), ("line", .int (p.1 : Int))]) → E (.ref CT) (some d) H'
def sp_readRules (CR CT : Addr) : Sp := fun vs H Q E => ∃ t : Str, vs = [.str t] ∧ t.length ≤ 100000 ∧ LnOk (lnsOf t) ∧
  (fw (lnsOf t) = none → ∀ (H' : Hp) (b : Addr) (rs : List V), Same H H' → H' b = some (.tup rs) → rs.length ≤ 6 → (∀ r ∈ rs, RuG CR H' r) → Q (.ref b) H') ∧ ∀ p, fw (lnsOf t) = some p → ErT CT H p E
def sp_ruleWeight (CR : Addr) : Sp := fun vs H Q _ => ∃ v, vs = [v] ∧ RuG CR H v ∧ ∀ (i : Int) H', Same H H' → Q (.int i) H'
def MkG (K : PySem.W.Frag) (H : Hp) (v : V) : Prop := ∃ (t : Addr) (x : Str) (u : V), v = .ref t ∧ H t = some (.tup [.str x, u]) ∧ x.length ≤ 100
def sp_pieceMarks (K : PySem.W.Frag) (CR : Addr) : Sp := fun vs H Q _ => ∃ (v : V) (n d : Nat), vs = [v, .int (n : Int), .int (d : Int)] ∧ RuG CR H v ∧ ∀ (H' : Hp) (L : Addr) (ms : List V), Same H H' → H L = none → H' L = some (.lst ms) → ms.length ≤ 3 → (∀ m ∈ ms, MkG K H' m) → Q (.ref L) H'
def sp_longestFirst (K : PySem.W.Frag) (P0 : Addr) : Sp := fun vs H Q _ => ∃ (a : Addr) (xs : List V), vs = [.ref a] ∧ SqL K H a xs ∧ xs.length < 64 ∧ (∀ x ∈ xs, MkG K H x) ∧ LamX.Tabs (T0 P0) H ∧ ∀ (H' : Hp) (v : V), LamX.ExtN H H' → LamX.Tabs (T0 P0) H' → Q v H'
def sp_Reader_init (K : PySem.W.Frag) (CR CD P0 : Addr) : Sp := fun vs H Q _ => ∃ (a dx b : Addr) (rs : List V), vs = [.ref a, .ref b] ∧ H a = some (.ins CD dx []) ∧ H b = some (.tup rs) ∧ rs.length ≤ 6 ∧ (∀ r ∈ rs, RuG CR H r) ∧ LamX.Tabs (T0 P0) H ∧
  ∀ H' : Hp, ExX a H H' → LamX.Tabs (T0 P0) H' → Q .non H'
def tgF (t : Str) (rt : Addr) (wi : Int) (rd : Addr) : List (Str × V) := [("text", .str t), ("rules", .ref rt), ("weight", .int wi), ("reader", .ref rd)]
def TgAt (CG : Addr) (H : Hp) (a : Addr) (t : Str) : Prop := ∃ (dx rt : Addr) (wi : Int) (rd : Addr), H a = some (.ins CG dx (tgF t rt wi rd)) ∧ H rt = some (.tup ((lnsOf t).map V.str))
def sp_Tongue_init (CG CT P0 : Addr) : Sp := fun vs H Q E => ∃ (a dx : Addr) (t : Str), vs = [.ref a, .str t] ∧ H a = some (.ins CG dx []) ∧ t.length ≤ 100000 ∧ LnOk (lnsOf t) ∧ LamX.Tabs (T0 P0) H ∧
  (fw (lnsOf t) = none → ∀ H' : Hp, ExX a H H' → LamX.Tabs (T0 P0) H' → TgAt CG H' a t → Q .non H') ∧ ∀ p, fw (lnsOf t) = some p → ErT CT H p E
def sp_Tongue_len (CG : Addr) : Sp := fun vs H Q _ => ∃ (a : Addr) (t : Str), vs = [.ref a] ∧ TgAt CG H a t ∧ (lnsOf t).length ≤ 100 ∧ Q (.int ((lnsOf t).length : Int)) H
def EqG (CG : Addr) (a b : Addr) (r : Bool) (H : Hp) : Prop := ∃ t u, TgAt CG H a t ∧ TgAt CG H b u ∧ r = decide (t = u)
def sp_Tongue_eq (CG : Addr) : Sp := spEqI (EqG CG)
def sp_toldTongue (K : PySem.W.Frag) (P0 : Addr) : Sp := fun vs H Q _ => ∃ (t : Str) (a : Addr), vs = [.str t, .ref a] ∧ SqL K H a ((lnsOf t).map V.str) ∧ t.length ≤ 100000 ∧ LnOk (lnsOf t) ∧ LamX.Tabs (T0 P0) H ∧
  ∀ (H' : Hp) (v : V), LamX.ExtN H H' → LamX.Tabs (T0 P0) H' → fwV H' v (fw (lnsOf t)) → Q v H'
/-! ### the law's drawing -/
def one (c : Nat) : V := .str (S [c])
def SgOk (l : List Nat) : Prop := 1 ≤ l.length ∧ l.length ≤ 100 ∧ ∀ c ∈ l, c ≠ 10 ∧ c < 1000
def sp_markSigns : Sp := fun vs H Q _ => vs = [] ∧ ∀ (H' : Hp) (a : Addr), Same H H' → H a = none → H' a = some (.lst (mkL.map one)) → Q (.ref a) H'
def sp_allSigns : Sp := fun vs H Q _ => vs = [] ∧ ∀ (H' : Hp) (a : Addr) (l : List Nat), Same H H' → H a = none → SgOk l → H' a = some (.lst (l.map one)) → Q (.ref a) H'
def sp_lawWord : Sp := fun vs H Q _ => ∃ (p c a : Addr) (m n : Nat) (l : List Nat), vs = [.ref p, .ref a, .int (n : Int)] ∧ PenAt H p c m ∧ m < 900000 ∧ H a = some (.lst (l.map one)) ∧ SgOk l ∧ 1 ≤ n ∧ n ≤ 10 ∧
  ∀ (H' : Hp) (t : List Nat), Ks H H' → PenAt H' p c (m + 1 + n) → 1 ≤ t.length → t.length ≤ n → (∀ x ∈ t, x ∈ l) → Q (.str (S t)) H'
def sp_some : Sp := fun vs H Q _ => ∃ (p c a : Addr) (m n : Nat) (l : List Nat), vs = [.ref p, .ref a, .int (n : Int)] ∧ PenAt H p c m ∧ m < 900000 ∧ H a = some (.lst (l.map one)) ∧ 1 ≤ n ∧ n ≤ 10 ∧ n ≤ l.length ∧ l.length ≤ 100 ∧
  ∀ (H' : Hp) (b : Addr) (t : List Nat), Ks H H' → PenAt H' p c (m + n) → H' b = some (.lst (t.map one)) → t.length = n → (∀ x ∈ t, x ∈ l) → Q (.ref b) H'
def r7 (k o c : Str) (d : Nat) (e : Str) (b1 b2 : Bool) : List V := [.str k, .str o, .str c, .int (d : Int), .str e, .bl b1, .bl b2]
def R7 (v : V) (H : Hp) : Prop := ∃ (a : Addr) (k o c : Str) (d : Nat) (e : Str) (b1 b2 : Bool), v = .ref a ∧ H a = some (.tup (r7 k o c d e b1 b2)) ∧ GoodS 8 k ∧ GoodS 8 o ∧ GoodS 8 c ∧ d ≤ 4 ∧ GoodS 8 e
theorem R7.tk {v : V} {H H' : Hp} (h : R7 v H) (s : Tk H H') : R7 v H' := let ⟨a, k, o, c, d, e, b1, b2, h1, h2, h3⟩ := h; ⟨a, k, o, c, d, e, b1, b2, h1, s _ _ h2, h3⟩
def sp_newRule : Sp := fun vs H Q _ => ∃ (p c a : Addr) (m : Nat) (o : Str) (l : List Nat), vs = [.ref p, .str o, .ref a, .int 4] ∧ PenAt H p c m ∧ m < 800000 ∧ GoodS 8 o ∧ H a = some (.lst (l.map one)) ∧ SgOk l ∧
  ∀ (H' : Hp) (v : V), Ks H H' → PenAt H' p c (m + 20) → R7 v H' → Q v H'
def sp_newRules : Sp := fun vs H Q _ => ∃ (p c : Addr) (m n : Nat), vs = [.ref p, .int (n : Int), .int 4] ∧ PenAt H p c m ∧ m < 700000 ∧ 1 ≤ n ∧ n ≤ 8 ∧
  ∀ (H' : Hp) (b : Addr) (rs : List V), Ks H H' → PenAt H' p c (m + 400) → H' b = some (.lst rs) → 1 ≤ rs.length → rs.length ≤ 8 → (∀ r ∈ rs, R7 r H') → Q (.ref b) H'
def sp_ruleLine : Sp := fun vs H Q _ => ∃ v, vs = [v] ∧ R7 v H ∧ ∀ (H' : Hp) (z : Str), Same H H' → GoodS 100 z → Q (.str z) H'
def sp_oddWords : Sp := fun vs H Q _ => ∃ (a : Addr) (ms : List Str), vs = [.ref a] ∧ H a = some (.lst (ms.map V.str)) ∧ ms.length ≤ 8 ∧ (∀ z ∈ ms, GoodS 10 z) ∧
  ∀ (H' : Hp) (b : Addr) (zs : List Str), Same H H' → H' b = some (.lst (zs.map V.str)) → 1 ≤ zs.length → zs.length ≤ 100 → (∀ z ∈ zs, GoodS 10 z) → Q (.ref b) H'
def sp_spoiled : Sp := fun vs H Q _ => ∃ (p c a b : Addr) (m n : Nat) (ls ms : List Str), vs = [.ref p, .ref a, .ref b] ∧ PenAt H p c m ∧ m < 800000 ∧ H a = some (.lst (ls.map V.str)) ∧ H b = some (.lst (ms.map V.str)) ∧ ms.length ≤ 8 ∧ (∀ z ∈ ms, GoodS 10 z) ∧
  1 ≤ ls.length ∧ ls.length ≤ 50 ∧ n ≤ 500 ∧ (∀ z ∈ ls, GoodS n z) ∧
  ∀ (H' : Hp) (d : Addr) (zs : List Str), Ks H H' → PenAt H' p c (m + 10) → H' d = some (.lst (zs.map V.str)) → 1 ≤ zs.length → zs.length ≤ ls.length + 1 → (∀ z ∈ zs, GoodS (n + 20) z) → Q (.ref d) H'
def sp_law (K : PySem.W.Frag) (P0 : Addr) : Sp := fun vs H Q _ => ∃ (a : Addr) (ns : List Int), vs = [.ref a] ∧ SqL K H a (ns.map V.int) ∧ ns.length ≤ 63 ∧ H P0 = some (.tbl #[]) ∧ ∀ H', Q (.bl true) H'
/-! ### the classes -/
structure Ca (K : PySem.W.Frag) (CR CD CG : Addr) : Prop where
  iR : C8.InsC K CR
  iD : C8.InsC K CD
  iG : C8.InsC K CG
  r1 : NoAttr K CR "kind"
  r2 : NoAttr K CR "opener"
  r3 : NoAttr K CR "closer"
  r4 : NoAttr K CR "nested"
  r5 : NoAttr K CR "escape"
  r6 : NoAttr K CR "doubled"
  r7 : NoAttr K CR "line"
  d1 : NoAttr K CD "parts"
  d2 : NoAttr K CD "_marks"
  g1 : NoAttr K CG "text"
  g2 : NoAttr K CG "rules"
  g3 : NoAttr K CG "weight"
  g4 : NoAttr K CG "reader"
structure Eqc (P : Program) (w : World) (K : PySem.W.Frag) (mg : Str → Option Value) (base : Heap) (k : Nat) (C : Addr) (R : Addr → Addr → Bool → Hp → Prop) : Prop where
  ex : ∃ (f : Addr) (fd : FuncData) (ps : List Str), OwnC K C f ∧ FnOk P w K mg base C8.CX0 k f fd ps (spEqI R) ∧ Binds K fd ps []
section
variable {X : Cx} {C : Addr} {R : Addr → Addr → Bool → Hp → Prop} {k j : Nat}
theorem op_eqC (c : Eqc X.prog X.w X.K X.mg X.base k C R) (hr : Room j X.A) (hj : k ≤ j) : OpR X (compareOp .Eq) (rEqI C false R) := by
  obtain ⟨f, fd, ps, O, F, b⟩ := c.ex
  exact op_eqI O F b hr hj
theorem op_eqI2 (c : Eqc X.prog X.w X.K X.mg X.base k C R) (hr : Room j X.A) (hj : k ≤ j) {r : R2} (hu : OpR X (compareOp .Eq) r) : OpR X (compareOp .Eq) (fun x y H Q => r x y H Q ∨ rEqI C false R x y H Q) := op_alt hu (op_eqC c hr hj)
end

end
end Vf

set_option maxRecDepth 100000
set_option maxHeartbeats 4000000
namespace Vf
open PySem PySem.Spec PyProof.Rows L2 SX
section
variable {P : Program} {w : World} {K : PySem.W.Frag} {mg : Str → Option Value} {base : Heap}
theorem ify {c : Bool} {A B : Prop} (h : c = true) (x : A) : if c = true then A else B := by rw [if_pos h]; exact x
theorem ifn {c : Bool} {A B : Prop} (h : c = false) (x : B) : if c = true then A else B := by rw [if_neg (by rw [h]; exact Bool.false_ne_true)]; exact x
theorem cut_to (xs : List V) (n : Nat) : cutV xs none (some (n : Int)) = xs.take n := by
  unfold cutV
  rw [HT.sIx_nat, HT.sIx_none]
  show (xs.take (min n xs.length - 0)) = _
  rw [Nat.sub_zero]
  by_cases h : n ≤ xs.length
  · rw [Nat.min_eq_left h]
  · rw [Nat.min_eq_right (by omega), List.take_of_length_le (Nat.le_refl _), List.take_of_length_le (by omega)]
theorem cut_from (xs : List V) (n : Nat) : cutV xs (some (n : Int)) none = xs.drop n := by
  unfold cutV
  rw [HT.sIx_nat, HT.sIx_none]
  by_cases h : n ≤ xs.length
  · rw [Nat.min_eq_left h, List.take_of_length_le (by rw [List.length_drop]; omega)]
  · rw [Nat.min_eq_right (by omega), List.drop_eq_nil_of_le (Nat.le_refl _), List.drop_eq_nil_of_le (by omega), List.take_nil]
theorem inV_strs (w : Str) (l : List Str) : inV (.str w) (l.map V.str) = decide (w ∈ l) := by
  unfold inV
  rw [List.any_map]
  by_cases h : w ∈ l
  · rw [decide_eq_true h]
    exact List.any_eq_true.mpr ⟨w, h, by show (w == w) = true; exact beq_self_eq_true _⟩
  · rw [decide_eq_false h]
    refine List.any_eq_false.mpr fun y hy => ?_
    show ¬ (y == w) = true
    intro z
    rw [beq_iff_eq] at z
    exact h (z ▸ hy)
theorem flat_strs (l : List Str) : (l.map V.str).all flatV = true := List.all_eq_true.mpr fun x hx => by
  obtain ⟨w, _, rfl⟩ := List.mem_map.mp hx
  rfl
theorem dS (a b : Str) : decide (V.str a = V.str b) = decide (a = b) := decide_eq_decide.mpr ⟨fun z => V.str.inj z, fun z => by rw [z]⟩
theorem dI (a b : Int) : decide (V.int a = V.int b) = decide (a = b) := decide_eq_decide.mpr ⟨fun z => V.int.inj z, fun z => by rw [z]⟩
theorem dB (a b : Bool) : decide (V.bl a = V.bl b) = decide (a = b) := decide_eq_decide.mpr ⟨fun z => V.bl.inj z, fun z => by rw [z]⟩
theorem at_strs {ws : List Str} {i : Nat} (h : i < ws.length) : atI (ws.map V.str) ((i : Nat) : Int) = some (.str ws[i]) := atI_nat (by rw [List.getElem?_map, List.getElem?_eq_getElem h]; rfl)
theorem getD_at {ws : List Str} {i : Nat} (h : i < ws.length) : ws.getD i "" = ws[i] := by
  rw [List.getD_eq_getElem?_getD, List.getElem?_eq_getElem h]; rfl
/-! ### words -/
theorem spl_bnd (S0 : List Nat) : ∀ (l acc : List Nat) (k : Nat), (TL.spl S0 k acc l).length ≤ l.length + 1 ∧ (∀ p ∈ TL.spl S0 k acc l, p.length ≤ acc.length + l.length) ∧ 1 ≤ (TL.spl S0 k acc l).length
  | [], acc, k => by
    rw [TL.spl_nil]
    exact ⟨Nat.le_refl _, fun p hp => by rw [List.mem_singleton.mp hp]; exact Nat.le_add_right _ _, Nat.le_refl _⟩
  | c :: r, acc, 0 => by
    by_cases e : TL.pre S0 (c :: r) = true
    · rw [TL.spl_hit e]
      obtain ⟨h1, h2, h3⟩ := spl_bnd S0 r [] (S0.length - 1)
      refine ⟨by rw [List.length_cons, List.length_cons]; omega, fun p hp => ?_, by rw [List.length_cons]; omega⟩
      rcases List.mem_cons.mp hp with rfl | hp
      · exact Nat.le_add_right _ _
      · have := h2 p hp
        rw [List.length_nil] at this
        rw [List.length_cons]; omega
    · rw [TL.spl_miss (Bool.eq_false_iff.mpr e)]
      obtain ⟨h1, h2, h3⟩ := spl_bnd S0 r (acc ++ [c]) 0
      refine ⟨by rw [List.length_cons]; omega, fun p hp => ?_, h3⟩
      have := h2 p hp
      rw [List.length_append, List.length_singleton] at this
      rw [List.length_cons]; omega
  | c :: r, acc, k + 1 => by
    obtain ⟨h1, h2, h3⟩ := spl_bnd S0 r acc k
    show (TL.spl S0 k acc r).length ≤ _ ∧ (∀ p ∈ TL.spl S0 k acc r, _) ∧ 1 ≤ (TL.spl S0 k acc r).length
    exact ⟨by rw [List.length_cons]; omega, fun p hp => by have := h2 p hp; rw [List.length_cons]; omega, h3⟩
theorem split_bnd {x y : Str} (hy : TL.tl y ≠ []) (hk : ¬ Builtin.Str.strKind x < Builtin.Str.strKind y) : (Txt.split x y).length ≤ x.length + 1 ∧ (∀ w ∈ Txt.split x y, w.length ≤ x.length) ∧ 1 ≤ (Txt.split x y).length := by
  have e := TL.split_spl x y hy hk
  obtain ⟨h1, h2, h3⟩ := spl_bnd (TL.tl y) (TL.tl x) [] 0
  rw [← e, List.length_map] at h1 h3
  refine ⟨by rw [TL.len_tl x]; exact h1, fun w hw => ?_, h3⟩
  have := h2 (TL.tl w) (by rw [← e]; exact List.mem_map_of_mem hw)
  rw [List.length_nil, Nat.zero_add] at this
  rw [TL.len_tl, TL.len_tl]; exact this
theorem spS_bnd (l : Str) : (spS l).length ≤ l.length + 1 ∧ (∀ w ∈ spS l, w.length ≤ l.length) ∧ 1 ≤ (spS l).length := split_bnd (by decide +kernel) (TL.kind_ok (by decide +kernel))
/-- the lines of joined lines -/
theorem lns_join {ls : List Str} (h : ls ≠ []) (hn : ∀ l ∈ ls, ∀ c ∈ TL.tl l, c ≠ 10) : Txt.split (Txt.join ("\n" : Str) ls) ("\n" : Str) = ls := by
  refine TL.map_tl_inj ?_
  rw [TL.split_spl _ _ (by decide +kernel) (TL.kind_ok (by decide +kernel))]
  have e : TL.tl (Txt.join ("\n" : Str) ls) = TL.joinL (TL.tl ("\n" : Str)) (ls.map TL.tl) := by
    rw [TL.join_eq]
    exact TL.tl_join _ _
  rw [e, show TL.tl ("\n" : Str) = [10] from by decide +kernel]
  refine TL.spl_join (by intro z; exact h (List.map_eq_nil_iff.mp z)) fun p hp hc => ?_
  obtain ⟨l, hl, rfl⟩ := List.mem_map.mp hp
  exact hn l hl 10 hc rfl
/-! ### options with a word behind them -/
theorem idx_first {g : List Str} {o : Str} (h : o ∈ g) : g[g.idxOf o]? = some o ∧ ∀ m, m < g.idxOf o → g[m]? ≠ some o := by
  have hl := List.idxOf_lt_length_iff.mpr h
  refine ⟨by rw [List.getElem?_eq_getElem hl, List.getElem_idxOf], fun m hm z => ?_⟩
  have hm2 := (List.getElem?_eq_some_iff.mp z)
  obtain ⟨q, e⟩ := hm2
  have := List.not_of_lt_findIdx hm
  rw [e, beq_self_eq_true] at this
  cases this
theorem opt_next {ws os : List Str} (h : CV ws os) {o : Str} (ho : o = "nested" ∨ o = "escape") (hm : o ∈ ws.drop 4) : ∃ w, (ws.drop 4)[(ws.drop 4).idxOf o + 1]? = some w ∧ (o = "nested" → w ∈ (["2", "3", "4"] : List Str)) ∧ (o = "escape" → w.length = 1 ∧ isMk w = true) := by
  obtain ⟨h1, h2, h3, h4⟩ := h
  obtain ⟨e1, _⟩ := idx_first hm
  have hl := List.idxOf_lt_length_iff.mpr hm
  generalize hj : (ws.drop 4).idxOf o = j at e1 hl
  have g4 : 4 < ws.length := by rw [List.length_drop] at hl; omega
  have hlt : j + 1 < (ws.drop 4).length := by
    rcases Nat.lt_or_ge (j + 1) (ws.drop 4).length with z | z
    · exact z
    · have e : j = (ws.drop 4).length - 1 := by omega
      have : (ws.drop 4).getLast? = some o := by rw [List.getLast?_eq_getElem?, ← e]; exact e1
      rw [last_drop g4] at this
      rcases ho with rfl | rfl
      · exact absurd this h3
      · exact absurd this h4
  refine ⟨(ws.drop 4)[j + 1], List.getElem?_eq_getElem hlt, ?_⟩
  have hi : 4 + (j + 1) < ws.length := by rw [List.length_drop] at hlt; omega
  have c := vd_at h1 hi
  have ew : (ws.drop 4)[j + 1] = ws[4 + (j + 1)] := List.getElem_drop
  rw [← ew] at c
  unfold canB at c
  have el : (ws.take (4 + (j + 1))).length = 4 + (j + 1) := by rw [List.length_take]; omega
  rw [el, if_neg (by omega), if_neg (by omega), if_neg (by omega), if_neg (by omega)] at c
  have ed : (ws.take (4 + (j + 1))).drop 4 = (ws.drop 4).take (j + 1) := by rw [List.drop_take]; congr 1; omega
  have eg : ((ws.drop 4).take (j + 1)).getLast? = some o := by
    rw [List.getLast?_eq_getElem?, List.length_take, Nat.min_eq_left (by omega), Nat.add_sub_cancel, List.getElem?_take, if_pos (by omega)]
    exact e1
  unfold optB at c
  rw [ed, eg] at c
  rcases ho with rfl | rfl
  · rw [if_pos rfl, decide_eq_true_eq] at c
    exact ⟨fun _ => c, fun z => absurd z (by decide +kernel)⟩
  · rw [if_neg (by decide +kernel), if_pos rfl, Bool.and_eq_true, decide_eq_true_eq] at c
    exact ⟨fun z => absurd z (by decide +kernel), fun _ => c⟩
theorem mk_len {w : Str} (h : isMk w = true) : 1 ≤ w.length ∧ w.length ≤ 4 := by
  unfold isMk at h
  rw [Bool.and_eq_true, Bool.and_eq_true, decide_eq_true_eq, decide_eq_true_eq] at h
  exact ⟨h.1, h.2.1⟩
theorem vd_0 {ws os : List Str} (h : Vd ws os) (hl : 0 < ws.length) : ws[0] = "remark" ∨ ws[0] = "quote" := by
  have c := vd_at h hl
  unfold canB at c
  rw [List.take_zero, if_pos (show ([] : List Str).length = 0 from rfl), decide_eq_true_eq] at c
  simpa using c
theorem vd_1 {ws os : List Str} (h : Vd ws os) (hl : 1 < ws.length) : isMk ws[1] = true := by
  have c := vd_at h hl
  unfold canB at c
  have e : (ws.take 1).length = 1 := by rw [List.length_take]; omega
  rw [e, if_neg (by decide), if_pos rfl, Bool.and_eq_true] at c
  exact c.1
/-! ### frames -/
theorem ExX.of {a : Addr} {H H' : Hp} (s : Same H H') : ExX a H H' := fun b o _ e _ => s b o e
theorem ExX.trans {a : Addr} {H H1 H2 : Hp} (s : ExX a H H1) (t : ExX a H1 H2) : ExX a H H2 := fun b o n e m => t b o n (s b o n e m) m
theorem ExX.ext {a : Addr} {H H' : Hp} (s : LamX.ExtN H H') : ExX a H H' := fun b o _ e m => s b o e m
theorem extN_same {H H' : Hp} (s : Same H H') : LamX.ExtN H H' := fun b o e _ => s b o e
theorem tabs_same {T : List (Addr × Str)} {H H' : Hp} (t : LamX.Tabs T H) (s : Same H H') : LamX.Tabs T H' := t.ext s
theorem tabs_ks {T : List (Addr × Str)} {H H' : Hp} (t : LamX.Tabs T H) (k : Ks H H') : LamX.Tabs T H' := fun p hp => by
  obtain ⟨ps, h1, h2, h3⟩ := t p hp
  refine ⟨ps, k.1 _ _ h1 (fun _ z => nomatch z), h2, fun pos cv hc => ?_⟩
  obtain ⟨c, e1, e2⟩ := h3 pos cv hc
  exact ⟨c, e1, k.1 _ _ e2 (fun _ z => by unfold LamX.CodeO at z; cases z)⟩
theorem tabs_upd {T : List (Addr × Str)} {H : Hp} {L : Addr} {u o : HO} (t : LamX.Tabs T H) (h : H L = some u) (n1 : ∀ ps, u ≠ .tbl ps) (n2 : ∀ c q, u ≠ LamX.CodeO c q) : LamX.Tabs T (upd H L o) := fun p hp => by
  obtain ⟨ps, h1, h2, h3⟩ := t p hp
  refine ⟨ps, by rw [upd_ne fun z => by rw [z, h] at h1; exact n1 _ (Option.some.inj h1)]; exact h1, h2, fun pos cv hc => ?_⟩
  obtain ⟨c, e1, e2⟩ := h3 pos cv hc
  exact ⟨c, e1, by rw [upd_ne fun z => by rw [z, h] at e2; exact n2 _ _ (Option.some.inj e2)]; exact e2⟩
theorem RuG.ext {CR : Addr} {H H' : Hp} {v : V} (h : RuG CR H v) (s : LamX.ExtN H H') : RuG CR H' v := let ⟨a, dx, k, op, cl, nd, es, db, ln, e, h1, h2⟩ := h; ⟨a, dx, k, op, cl, nd, es, db, ln, e, s _ _ h1 (fun _ z => nomatch z), h2⟩
theorem MkG.ext {K : PySem.W.Frag} {H H' : Hp} {v : V} (h : MkG K H v) (s : LamX.ExtN H H') : MkG K H' v := let ⟨t, x, u, e, h1, h2⟩ := h; ⟨t, x, u, e, s _ _ h1 (fun _ z => nomatch z), h2⟩
theorem strOk_S {l : List Nat} (h : ∀ c ∈ l, c < 1000) : PyData.strOk (S l) = true := by
  unfold PyData.strOk
  show l.toArray.all _ = true
  rw [List.all_toArray]
  exact List.all_eq_true.mpr fun c hc => decide_eq_true (by have := h c hc; omega)
theorem one_list (l : List Nat) : (l.map one) = l.map fun c => V.str (S [c]) := rfl
section
variable {K : PySem.W.Frag} {a : Addr} {xs : List V}
theorem walk_enumK {k0 : Int} : Walk (IteK K a k0) xs.length (fun H => SqL K H a xs) (YPair (fun i => some (.int (k0 + (i : Nat)))) (fun i => xs[i]?)) := by
  refine ⟨fun i _ hi q => ⟨xs, xs[i], q, by simp [hi]⟩, fun _ q => ⟨xs, q, rfl⟩, fun i H v H' _ q y => ?_⟩
  obtain ⟨T, x, h1, h2, h3, h4⟩ := y
  exact ⟨T, .int (k0 + (i : Nat)), x, h1, h2, h3, rfl, h4 xs q⟩
theorem walk_enumT : Walk (IteT K a) xs.length (fun H => SqT K H a xs) (YPair (fun i => some (.int (i : Nat))) (fun i => xs[i]?)) := by
  refine ⟨fun i _ hi q => ⟨xs, xs[i], q, by simp [hi]⟩, fun _ q => ⟨xs, q, rfl⟩, fun i H v H' _ q y => ?_⟩
  obtain ⟨T, x, h1, h2, h3, h4⟩ := y
  exact ⟨T, .int (i : Nat), x, h1, h2, h3, rfl, h4 xs q⟩
end
theorem isMk_lt {w : Str} : isMk w = (decide (1 ≤ w.length) && decide (w.length ≤ 4) && (TL.tl w).all fun c => decide (c ∈ mkL)) := by unfold isMk; rw [Bool.and_assoc]
theorem same_refl (H : Hp) : Same H H := fun _ _ z => z
theorem same1 {H : Hp} {p : Addr} (h : H p = none) (o : HO) : Same H (upd H p o) := same_new (same_refl H) h o
theorem slT_from {K : PySem.W.Frag} {H : Hp} {a : Addr} {xs : List V} {Q : VK} (j : Nat) (h : SqT K H a xs) (q : ∀ b H', Same H H' → SqT K H' b (xs.drop j) → Q (.ref b) H') : rSlA K (.ref a) (some (j : Int)) none H Q := by
  refine ⟨a, xs, rfl, h, fun w => ?_, fun w p hp => ?_⟩
  · have e : xs.drop j = xs := by
      have w1 := w.1
      rw [HT.sIx_nat] at w1
      by_cases hj : j = 0
      · rw [hj, List.drop_zero]
      · have : xs.length = 0 := by omega
        rw [List.length_eq_zero_iff.mp this, List.drop_nil]
    exact q a H (same_refl H) (by rw [e]; exact h)
  · rw [cut_from]
    exact q p _ (same1 hp _) (SqT.of upd_same)
theorem slT_to {K : PySem.W.Frag} {H : Hp} {a : Addr} {xs : List V} {Q : VK} (j : Nat) (h : SqT K H a xs) (q : ∀ b H', Same H H' → SqT K H' b (xs.take j) → Q (.ref b) H') : rSlA K (.ref a) none (some (j : Int)) H Q := by
  refine ⟨a, xs, rfl, h, fun w => ?_, fun w p hp => ?_⟩
  · have e : xs.take j = xs := by
      have w1 := w.2
      rw [HT.sIx_nat] at w1
      exact List.take_of_length_le (by omega)
    exact q a H (same_refl H) (by rw [e]; exact h)
  · rw [cut_to]
    exact q p _ (same1 hp _) (SqT.of upd_same)
theorem strs_drop (ws : List Str) (n : Nat) : (ws.map V.str).drop n = (ws.drop n).map V.str := (List.map_drop ..).symm
theorem strs_take (ws : List Str) (n : Nat) : (ws.map V.str).take n = (ws.take n).map V.str := (List.map_take ..).symm
theorem sqT_same {K : PySem.W.Frag} {H H' : Hp} {a : Addr} {xs : List V} (s : Same H H') (h : SqT K H a xs) : SqT K H' a xs := (Ks.of s).seqT h
theorem sqL_same {K : PySem.W.Frag} {H H' : Hp} {a : Addr} {xs : List V} (s : Same H H') (h : SqL K H a xs) : SqL K H' a xs := (Ks.of s).seq h
theorem at_lastS {ws : List Str} (h : ws ≠ []) : ∃ u, ws.getLast? = some u ∧ atI (ws.map V.str) (-1) = some (.str u) := by
  refine ⟨ws.getLast h, List.getLast?_eq_some_getLast h, ?_⟩
  have e : ws.map V.str = ws.dropLast.map V.str ++ [V.str (ws.getLast h)] := by
    conv => lhs; rw [← List.dropLast_concat_getLast h]
    rw [List.map_append]; rfl
  rw [e]
  exact atI_last _ _
theorem truL {K : PySem.W.Frag} {H : Hp} {a : Addr} {xs : List V} (h : SqL K H a xs) : TruV K (.ref a) H (!xs.isEmpty) := .inl ⟨xs, h, rfl⟩
theorem dN (a b : Nat) : decide (V.int (a : Int) = V.int (b : Int)) = decide (a = b) := decide_eq_decide.mpr ⟨fun z => by have := V.int.inj z; omega, fun z => by rw [z]⟩
theorem wcGo_cons (os ah : List Str) (w : Str) (r : List Str) (c : Nat) : wcGo os ah (w :: r) c = if canB ah w os = true then wcGo os (ah ++ [w]) r (c + (w.length + 1)) else some c := rfl
theorem fwGo_cons (k : Nat) (l : Str) (r os : List Str) : fwGo k (l :: r) os = if 6 ≤ k then some (k + 1, 1) else match wcol l os with
    | some c => some (k + 1, c)
    | none => fwGo (k + 1) r (os ++ [opn l]) := rfl
theorem sqL_ins {K : PySem.W.Frag} {H : Hp} {a b C dx : Addr} {fs : List (Str × V)} {xs : List V} {o : HO} (h : SqL K H b xs) (e : H a = some (.ins C dx fs)) : SqL K (upd H a o) b xs := by
  rcases h with (h | ⟨o', h⟩) | h
  · exact .inl (.inl (by rw [upd_ne (ne_of h e fun z => nomatch z)]; exact h))
  · exact .inl (.inr ⟨o', by rw [upd_ne (ne_of h e fun z => nomatch z)]; exact h⟩)
  · exact .inr h
theorem ins_keep {H : Hp} {a : Addr} {o : HO} : ∀ b u, b ≠ a → H b = some u → (upd H a o) b = some u := fun b u n e => by rw [upd_ne n]; exact e
theorem RuG.updL {CR : Addr} {H : Hp} {v : V} {R : Addr} {xs : List V} {o : HO} (h : RuG CR H v) (e : H R = some (.lst xs)) : RuG CR (upd H R o) v := let ⟨a, dx, k, op, cl, nd, es, db, ln, ev, h1, h2⟩ := h; ⟨a, dx, k, op, cl, nd, es, db, ln, ev, by rw [upd_ne (ne_of h1 e fun z => nomatch z)]; exact h1, h2⟩
theorem RuG.same {CR : Addr} {H H' : Hp} {v : V} (h : RuG CR H v) (s : Same H H') : RuG CR H' v := h.ext (extN_same s)
theorem str_ne0 (t : Str) : ((t.length : Int) != 0) = decide (t ≠ "") := by
  by_cases h : t = ""
  · subst h; decide +kernel
  · rw [decide_eq_true h]
    have : t.length ≠ 0 := fun z => h (TL.ext_tl (List.length_eq_zero_iff.mp (by rw [← TL.len_tl]; exact z)))
    rw [bne_iff_ne]
    omega
theorem call_lenK {X : Cx} {K : PySem.W.Frag} (hK : X.K = K) : CallR X (.builtin "len") (fun xs H Q => ∃ x n, xs = [x] ∧ LenV K x H n ∧ Q (.int ((n : Nat) : Int)) H) := by subst hK; exact call_len
def PInv (K : PySem.W.Frag) (H : Hp) (L : Addr) (j : Nat) (ms : List V) (H' : Hp) : Prop := H' L = some (.lst ms) ∧ Same H H' ∧ ms.length ≤ j ∧ ∀ m ∈ ms, MkG K H' m
theorem pinv_up {K : PySem.W.Frag} {H : Hp} {L : Addr} {j : Nat} {ms : List V} {H' : Hp} (h : PInv K H L j ms H') : PInv K H L (j + 1) ms H' := ⟨h.1, h.2.1, Nat.le_succ_of_le h.2.2.1, h.2.2.2⟩
theorem pinv_push {K : PySem.W.Frag} {H H1 H2 : Hp} {L t : Addr} {j : Nat} {ms : List V} {x : Str} {u : V} (hL : H L = none) (h : PInv K H L j ms H1) (s : Same H1 H2) (ht : H2 t = some (.tup [.str x, u])) (hx : x.length ≤ 100) : PInv K H L (j + 1) (ms ++ [.ref t]) (upd H2 L (.lst (ms ++ [.ref t]))) := by
  obtain ⟨h1, h2, h3, h4⟩ := h
  have hL2 := s _ _ h1
  refine ⟨upd_same, fun b o z => by rw [upd_ne (ne_of_none z hL)]; exact s _ _ (h2 b o z), by rw [List.length_append, List.length_singleton]; omega, fun m hm => ?_⟩
  have keep : ∀ {b : Addr} {xs : List V}, H2 b = some (.tup xs) → (upd H2 L (.lst (ms ++ [.ref t]))) b = some (.tup xs) := fun z => by rw [upd_ne (ne_of z hL2 fun y => nomatch y)]; exact z
  rcases List.mem_append.mp hm with hm | hm
  · obtain ⟨t', x', u', e, e1, e2⟩ := h4 m hm
    exact ⟨t', x', u', e, keep (s _ _ e1), e2⟩
  · exact ⟨t, x, u, List.mem_singleton.mp hm, keep ht, hx⟩
theorem sqT_upd {K : PySem.W.Frag} {H : Hp} {p b : Addr} {u o : HO} {xs : List V} (h : SqT K H b xs) (e : H p = some u) (n1 : ∀ xs, u ≠ .tup xs) (n2 : ∀ o' u', u ≠ .frz o' u') : SqT K (upd H p o) b xs := by
  rcases h with (h | ⟨o', h⟩) | h
  · exact .inl (.inl (by rw [upd_ne (ne_of h e fun z => n1 _ z.symm)]; exact h))
  · exact .inl (.inr ⟨o', by rw [upd_ne (ne_of h e fun z => n2 _ _ z.symm)]; exact h⟩)
  · exact .inr h
theorem sqT_ext {K : PySem.W.Frag} {H H' : Hp} {b : Addr} {xs : List V} (h : SqT K H b xs) (e : LamX.ExtN H H') : SqT K H' b xs := by
  rcases h with (h | ⟨o', h⟩) | h
  · exact .inl (.inl (e _ _ h fun _ z => nomatch z))
  · exact .inl (.inr ⟨o', e _ _ h fun _ z => nomatch z⟩)
  · exact .inr h
theorem dx_ne {P : Program} {w : World} {a : Addr} {xs : List Ent} : (∀ ps, DX P w a xs ≠ .tbl ps) ∧ (∀ ys, DX P w a xs ≠ .tup ys) ∧ (∀ o u, DX P w a xs ≠ .frz o u) := ⟨fun _ z => (nomatch z), fun _ z => (nomatch z), fun _ _ z => nomatch z⟩
theorem EntsAt.ext {K : PySem.W.Frag} {H H' : Hp} {xs : List Ent} (h : EntsAt K H xs) (e : LamX.ExtN H H') : EntsAt K H' xs := fun q hq => sqT_ext (h q hq) e
theorem EntsAt.updX {P : Program} {w : World} {K : PySem.W.Frag} {H : Hp} {p : Addr} {xs ys : List Ent} {o : HO} (h : EntsAt K H xs) (e : H p = some (DX P w p ys)) : EntsAt K (upd H p o) xs := fun q hq => sqT_upd (h q hq) e dx_ne.2.1 dx_ne.2.2
theorem tabs_updN {T : List (Addr × Str)} {H : Hp} {L : Addr} {u o : HO} (t : LamX.Tabs T H) (h : H L = some u) (n1 : ∀ ps, u ≠ .tbl ps) (n2 : NoCode H L) : LamX.Tabs T (upd H L o) := fun p hp => by
  obtain ⟨ps, h1, h2, h3⟩ := t p hp
  refine ⟨ps, by rw [upd_ne fun z => by rw [z, h] at h1; exact n1 _ (Option.some.inj h1)]; exact h1, h2, fun pos cv hc => ?_⟩
  obtain ⟨c, e1, e2⟩ := h3 pos cv hc
  exact ⟨c, e1, by rw [upd_ne (n2 c _ e2)]; exact e2⟩
theorem sqL_ext {K : PySem.W.Frag} {H H' : Hp} {b : Addr} {xs : List V} (h : SqL K H b xs) (e : LamX.ExtN H H') : SqL K H' b xs := by
  rcases h with (h | ⟨o', h⟩) | h
  · exact .inl (.inl (e _ _ h fun _ z => nomatch z))
  · exact .inl (.inr ⟨o', e _ _ h fun _ z => nomatch z⟩)
  · exact .inr h
theorem spl_ch (S0 : List Nat) : ∀ (l acc : List Nat) (k : Nat) (p : List Nat), p ∈ TL.spl S0 k acc l → ∀ c ∈ p, c ∈ acc ∨ c ∈ l
  | [], acc, k, p, h, c, hc => by
    rw [TL.spl_nil] at h
    rw [List.mem_singleton.mp h] at hc
    exact .inl hc
  | d :: r, acc, 0, p, h, c, hc => by
    by_cases e : TL.pre S0 (d :: r) = true
    · rw [TL.spl_hit e] at h
      rcases List.mem_cons.mp h with rfl | h
      · exact .inl hc
      · rcases spl_ch S0 r [] (S0.length - 1) p h c hc with z | z
        · cases z
        · exact .inr (.tail _ z)
    · rw [TL.spl_miss (Bool.eq_false_iff.mpr e)] at h
      rcases spl_ch S0 r (acc ++ [d]) 0 p h c hc with z | z
      · rcases List.mem_append.mp z with z | z
        · exact .inl z
        · rw [List.mem_singleton.mp z]; exact .inr (.head _)
      · exact .inr (.tail _ z)
  | d :: r, acc, k + 1, p, h, c, hc => by
    rcases spl_ch S0 r acc k p h c hc with z | z
    · exact .inl z
    · exact .inr (.tail _ z)
theorem spS_ch {l : Str} (h : ChOk l) : ∀ w ∈ spS l, ChOk w := fun w hw c hc => by
  have e := TL.split_spl l (" " : Str) (by decide +kernel) (TL.kind_ok (by decide +kernel))
  have hm : TL.tl w ∈ TL.spl (TL.tl (" " : Str)) 0 [] (TL.tl l) := by rw [← e]; exact List.mem_map_of_mem hw
  rcases spl_ch _ _ _ _ _ hm c hc with z | z
  · cases z
  · exact h c z
theorem GoodS.ch {n : Nat} {z : Str} (h : GoodS n z) : ChOk z := fun c hc => (h.2 c hc).2
theorem ch_ok {w : Str} (h : ChOk w) : PyData.strOk w = true := by rw [← TL.mk_tl w]; exact strOk_S h
theorem strs_dp {K : PySem.W.Frag} {H : Hp} : ∀ ls : List Str, DpAll K H (ls.map V.str) (ls.map PyData.str)
  | [] => .nil
  | x :: ls => .cons (.str _) (strs_dp ls)
theorem strs_lay : ∀ {ls : List Str}, (∀ l ∈ ls, ChOk l) → PyData.canLayAll0 (ls.map PyData.str) = true ∧ PyData.depthAll (ls.map PyData.str) ≤ 1
  | [], _ => ⟨rfl, Nat.zero_le _⟩
  | l :: ls, h => by
    obtain ⟨h1, h2⟩ := strs_lay (ls := ls) fun x hx => h x (List.mem_cons_of_mem _ hx)
    refine ⟨?_, ?_⟩
    · show (PyData.strOk l && PyData.canLayAll0 (ls.map PyData.str)) = true
      rw [h1, ch_ok (h l (List.mem_cons_self ..))]; rfl
    · show max 0 (PyData.depthAll (ls.map PyData.str)) ≤ 1
      omega
theorem strs_list {ls : List Str} (h : ∀ l ∈ ls, ChOk l) : SeqAt.shaped (.list (ls.map PyData.str)) = true ∧ PyData.eqv (.list (ls.map PyData.str)) (.list (ls.map PyData.str)) = true := by
  obtain ⟨h1, h2⟩ := strs_lay h
  refine ⟨?_, SeqAt.eqv_refl _ h1⟩
  show (PyData.canLayAll0 (ls.map PyData.str) && decide (PyData.depthAll (ls.map PyData.str) + 1 ≤ 64)) = true
  rw [h1, decide_eq_true (by omega)]; rfl
theorem eqv_nil (ls : List Str) : PyData.eqv (.list (ls.map PyData.str)) (.list []) = decide (ls = []) := by
  cases ls with
  | nil => rfl
  | cons x r => rw [decide_eq_false (fun z => nomatch z)]; rfl
theorem ones_flat (l : List Nat) : (l.map one).all flatV = true := List.all_eq_true.mpr fun x hx => by
  obtain ⟨w, _, rfl⟩ := List.mem_map.mp hx
  rfl
theorem one_strs (l : List Nat) : l.map one = (l.map fun c => S [c]).map V.str := by rw [List.map_map]; rfl
theorem inV_ones (c : Nat) (l : List Nat) : inV (.str ⟨#[c]⟩) (l.map one) = decide (c ∈ l) := by
  rw [one_strs, inV_strs]
  refine decide_eq_decide.mpr ?_
  rw [List.mem_map]
  refine ⟨fun ⟨d, hd, e⟩ => ?_, fun h => ⟨c, h, rfl⟩⟩
  have : [d] = [c] := S_inj e
  cases this
  exact hd
theorem op_notIn_seqK {X : Cx} {K : PySem.W.Frag} (hK : X.K = K) : OpR X (compareOp .NotIn) (rIn K true) := by subst hK; exact op_notIn_seq
theorem lc_penK {p c : Addr} {m0 n s : Nat} {te : TE} {k : Nat} {σ : L2.St} {H1 : Hp} {D : Addr} {Qd : Hp → Prop} (R : V → Hp → Prop) (stab : ∀ v H H', Tk H H' → R v H → R v H') (hk : k < σ.length) (hD : H1 D = none) (hp : PenAt H1 p c m0) (hn : n ≤ 1000000)
    (hs : ∀ (i : Nat) (H : Hp) (m : Nat) (Q : VK), i < n → Ks H1 H → PenAt H p c m → m ≤ m0 + i * s → (∀ (H' : Hp) (v : V), Ks H H' → PenAt H' p c (m + s) → R v H' → Q v H') → te ((wipe σ [k]).set k (some (.int ((0 : Int) + i)))) H Q)
    (hd : ∀ (H : Hp) (xs : List V), xs.length = n → (∀ v ∈ xs, R v H) → H D = some (.lst xs) → Ks H1 H → PenAt H p c (m0 + n * s) → Qd H) :
    ∃ W : Nat → Nat → Hp → Prop, (∃ m, W 0 m (upd H1 D (.lst []))) ∧ ∀ i m H, W i m H →
      ((Itr 0 n).stop i H ∧ Qd H) ∨ ((Itr 0 n).go i H ∧ ∃ Nx : Hp → Prop, (∀ H', Nx H' → ∃ m', m' < m ∧ W (i + 1) m' H') ∧ ∀ x H', (Itr 0 n).yld i H x H' → gName k x (wipe σ [k]) H' fun σ2 H2 => wipe σ2 [k] = wipe σ [k] ∧ tYes σ2 H2 fun b H3 =>
        if b = true then te σ2 H3 fun y H4 => ∃ acc, H4 D = some (.lst acc) ∧ acc.length < sizeLine ∧ Nx (upd H4 D (.lst (acc ++ [y]))) else Nx H3) := by
  have nD := hp.ne hD
  refine lc_range (lo := 0) (n := n) (fun i H => ∃ xs : List V, xs.length = i ∧ (∀ v ∈ xs, R v H) ∧ H D = some (.lst xs) ∧ Ks H1 H ∧ PenAt H p c (m0 + i * s)) ?_ ?_ ?_
  · exact ⟨[], rfl, (fun _ h => nomatch h), upd_same, Ks.new1 hD _, by rw [Nat.zero_mul]; exact hp.new hD⟩
  · rintro i H hi ⟨xs, e1, e2, e3, e4, e5⟩
    refine ⟨?_, ?_⟩
    · show ((σ.set k none).set k _).set k none = (σ.set k none)
      rw [List.set_set, List.set_set]
    · dsimp only [tYes]
      rw [if_pos rfl]
      refine hs i H _ _ hi e4 e5 (Nat.le_refl _) (fun H' v k1 k2 k3 => ?_)
      refine ⟨xs, k1.lst e3, szL (by omega), xs ++ [v], by rw [List.length_append, e1]; rfl, fun u hu => ?_, upd_same, (e4.trans k1).upd hD _, ?_⟩
      · have tk : Tk H' (upd H' D (.lst (xs ++ [v]))) := (Tk.refl H').lst (k1.lst e3)
        rcases List.mem_append.mp hu with hu | hu
        · exact stab _ _ _ (k1.tk.trans tk) (e2 u hu)
        · rw [List.mem_singleton.mp hu]
          exact stab _ _ _ tk k3
      · rw [Nat.succ_mul, ← Nat.add_assoc]
        exact k2.upd nD.1 nD.2
  · rintro H ⟨xs, e1, e2, e3, e4, e5⟩
    exact hd H xs e1 e2 e3 e4 e5
theorem ifl {b : Bool} {te : TE} {σ : L2.St} {H2 : Hp} {A : List V} {R : VK} (hA : ∀ R : VK, (∀ p, H2 p = none → R (.ref p) (upd H2 p (.lst A))) → te σ H2 R) (k : ∀ Y H3 ys, Same H2 H3 → H3 Y = some (.lst ys) → (ys = A ∨ ys = []) → R (.ref Y) H3) : if b = true then te σ H2 R else tLst tNil σ H2 R := by
  refine ite2 (fun _ => hA R fun p hp => k p _ A (same1 hp _) upd_same (.inl rfl)) fun _ => ?_
  exact ⟨szB (by decide), fun p hp => k p _ [] (same1 hp _) upd_same (.inr rfl)⟩
theorem ifv {b : Bool} {ta tb : TE} {σ : L2.St} {H2 : Hp} {R : VK} (x y : V) (hx : ∀ R : VK, R x H2 → ta σ H2 R) (hy : ∀ R : VK, R y H2 → tb σ H2 R) (k : ∀ v, (b = true ∧ v = x) ∨ (b = false ∧ v = y) → R v H2) : if b = true then ta σ H2 R else tb σ H2 R := by
  cases b with
  | true => rw [if_pos rfl]; exact hx R (k x (.inl ⟨rfl, rfl⟩))
  | false => rw [if_neg Bool.false_ne_true]; exact hy R (k y (.inr ⟨rfl, rfl⟩))
/-- a list of words of a line -/
def LwAt (H0 : Hp) (B : Addr) (n : Nat) (H' : Hp) : Prop := ∃ ws : List Str, Same H0 H' ∧ H' B = some (.lst (ws.map V.str)) ∧ 1 ≤ ws.length ∧ ws.length ≤ n ∧ ∀ w ∈ ws, GoodS 8 w
theorem lw_cat {H : Hp} {B Y : Addr} {n m : Nat} {H1 H2 : Hp} {ys : List Str} {R : VK} (h : LwAt H B n H1) (s : Same H1 H2) (hY : H2 Y = some (.lst (ys.map V.str))) (hk : n + ys.length ≤ m) (hm : m ≤ 100) (g : ∀ w ∈ ys, GoodS 8 w)
    (q : ∀ D H3, Same H2 H3 → LwAt H D m H3 → R (.ref D) H3) : rCat (.ref B) (.ref Y) H2 R := by
  obtain ⟨ws, s0, h1, h2, h3, h4⟩ := h
  refine ⟨B, Y, _, _, rfl, rfl, s _ _ h1, hY, szB (by rw [List.length_map, List.length_map]; omega), fun D hD => ?_⟩
  have s2 : Same H H2 := fun b o z => s _ _ (s0 b o z)
  refine q D _ (same1 hD _) ⟨ws ++ ys, same_new s2 hD _, by rw [List.map_append]; exact upd_same, ?_, ?_, fun w hw => ?_⟩
  · rw [List.length_append]; omega
  · rw [List.length_append]; omega
  · rcases List.mem_append.mp hw with hw | hw
    · exact h4 w hw
    · exact g w hw
theorem goods_of {n : Nat} {l : List Str} (h : (l.all fun z => decide (z.length ≤ n) && (TL.tl z).all fun c => decide (c ≠ 10 ∧ c < 1000)) = true) : ∀ z ∈ l, GoodS n z := by
  intro z hz
  have h := List.all_eq_true.mp h z hz
  rw [Bool.and_eq_true] at h
  exact ⟨of_decide_eq_true h.1, fun c hc => of_decide_eq_true (List.all_eq_true.mp h.2 c hc)⟩
theorem tl_joinS (y : Str) (ls : List Str) : TL.tl (Txt.join y ls) = TL.joinL (TL.tl y) (ls.map TL.tl) := by
  rw [TL.join_eq]; exact TL.tl_join _ _
theorem joinL_mem {s : List Nat} {c : Nat} : ∀ {ls : List (List Nat)}, c ∈ TL.joinL s ls → c ∈ s ∨ ∃ l ∈ ls, c ∈ l
  | [], h => by cases h
  | [l], h => .inr ⟨l, .head _, h⟩
  | l :: m :: r, h => by
    have h' : c ∈ l ++ (s ++ TL.joinL s (m :: r)) := h
    rcases List.mem_append.mp h' with z | z
    · exact .inr ⟨l, .head _, z⟩
    · rcases List.mem_append.mp z with z | z
      · exact .inl z
      · rcases joinL_mem z with y | ⟨u, hu, y⟩
        · exact .inl y
        · exact .inr ⟨u, .tail _ hu, y⟩
theorem joinL_len {s : List Nat} {b : Nat} : ∀ {ls : List (List Nat)}, (∀ l ∈ ls, l.length ≤ b) → (TL.joinL s ls).length ≤ ls.length * (b + s.length)
  | [], _ => Nat.zero_le _
  | [l], h => by
    have := h l (.head _)
    show l.length ≤ 1 * (b + s.length)
    omega
  | l :: m :: r, h => by
    have h1 := h l (.head _)
    have h2 := joinL_len (s := s) (b := b) (ls := m :: r) fun x hx => h x (.tail _ hx)
    show (l ++ (s ++ TL.joinL s (m :: r))).length ≤ (r.length + 1 + 1) * (b + s.length)
    rw [List.length_append, List.length_append, Nat.succ_mul]
    rw [List.length_cons] at h2
    omega
theorem lens_sum {b : Nat} : ∀ {ls : List Str}, (∀ l ∈ ls, l.length ≤ b) → (ls.map (·.length)).sum ≤ ls.length * b
  | [], _ => Nat.zero_le _
  | l :: r, h => by
    have h1 := h l (.head _)
    have h2 := lens_sum (b := b) (ls := r) fun x hx => h x (.tail _ hx)
    rw [List.map_cons, List.sum_cons, List.length_cons, Nat.succ_mul]
    omega
theorem lc_listK {K : PySem.W.Frag} {p c a : Addr} {m0 s : Nat} {xs : List V} {te : TE} {k : Nat} {σ : L2.St} {H1 : Hp} {D : Addr} {Qd : Hp → Prop} (R : Nat → V → Hp → Prop) (stab : ∀ i v H H', Tk H H' → R i v H → R i v H') (hk : k < σ.length) (hD : H1 D = none) (ha : H1 a = some (.lst xs)) (hp : PenAt H1 p c m0) (hn : xs.length ≤ 1000000)
    (hs : ∀ (i : Nat) (x : V) (H : Hp) (m : Nat) (Q : VK), xs[i]? = some x → Ks H1 H → PenAt H p c m → m ≤ m0 + i * s → (∀ (H' : Hp) (v : V), Ks H H' → PenAt H' p c (m + s) → R i v H' → Q v H') → te ((wipe σ [k]).set k (some x)) H Q)
    (hd : ∀ (H : Hp) (ys : List V), ys.length = xs.length → (∀ i v, ys[i]? = some v → R i v H) → H D = some (.lst ys) → Ks H1 H → PenAt H p c (m0 + xs.length * s) → Qd H) :
    ∃ W : Nat → Nat → Hp → Prop, (∃ m, W 0 m (upd H1 D (.lst []))) ∧ ∀ i m H, W i m H →
      ((Itl K a).stop i H ∧ Qd H) ∨ ((Itl K a).go i H ∧ ∃ Nx : Hp → Prop, (∀ H', Nx H' → ∃ m', m' < m ∧ W (i + 1) m' H') ∧ ∀ x H', (Itl K a).yld i H x H' → gName k x (wipe σ [k]) H' fun σ2 H2 => wipe σ2 [k] = wipe σ [k] ∧ tYes σ2 H2 fun b H3 =>
        if b = true then te σ2 H3 fun y H4 => ∃ acc, H4 D = some (.lst acc) ∧ acc.length < sizeLine ∧ Nx (upd H4 D (.lst (acc ++ [y]))) else Nx H3) := by
  have nD := hp.ne hD
  refine lc_list (K := K) (a := a) (xs := xs) (fun i H => ∃ ys : List V, ys.length = i ∧ (∀ j v, ys[j]? = some v → R j v H) ∧ H D = some (.lst ys) ∧ Ks H1 H ∧ PenAt H p c (m0 + i * s)) ?_ ?_ ?_ ?_
  · exact ⟨[], rfl, (fun _ _ h => nomatch h), upd_same, Ks.new1 hD _, by rw [Nat.zero_mul]; exact hp.new hD⟩
  · rintro i H _ ⟨ys, e1, e2, e3, e4, e5⟩
    exact SqL.of (e4.lst ha)
  · rintro i x H hx ⟨ys, e1, e2, e3, e4, e5⟩
    have hi : i < xs.length := (List.getElem?_eq_some_iff.mp hx).1
    refine ⟨?_, ?_⟩
    · show ((σ.set k none).set k _).set k none = (σ.set k none)
      rw [List.set_set, List.set_set]
    · dsimp only [tYes]
      rw [if_pos rfl]
      refine hs i x H _ _ hx e4 e5 (Nat.le_refl _) (fun H' v k1 k2 k3 => ?_)
      refine ⟨ys, k1.lst e3, szL (by omega), ys ++ [v], by rw [List.length_append, e1]; rfl, fun j u hu => ?_, upd_same, (e4.trans k1).upd hD _, ?_⟩
      · have tk : Tk H' (upd H' D (.lst (ys ++ [v]))) := (Tk.refl H').lst (k1.lst e3)
        rcases Nat.lt_or_ge j ys.length with hj | hj
        · rw [List.getElem?_append_left hj] at hu
          exact stab _ _ _ _ (k1.tk.trans tk) (e2 j u hu)
        · rw [List.getElem?_append_right hj] at hu
          have ej : j = i := by
            have := (List.getElem?_eq_some_iff.mp hu).1
            rw [List.length_singleton] at this
            omega
          subst ej
          rw [e1, Nat.sub_self] at hu
          cases hu
          exact stab _ _ _ _ tk k3
      · rw [Nat.succ_mul, ← Nat.add_assoc]
        exact k2.upd nD.1 nD.2
  · rintro H ⟨ys, e1, e2, e3, e4, e5⟩
    exact hd H ys e1 e2 e3 e4 e5
theorem good_of {l t : List Nat} {n : Nat} (h : SgOk l) (ht : ∀ x ∈ t, x ∈ l) (hn : t.length ≤ n) : GoodS n (S t) := ⟨by rw [S_len]; exact hn, fun c hc => h.2.2 c (ht c (by rwa [TL.tl_mk] at hc))⟩

end
end Vf

set_option maxRecDepth 100000
set_option maxHeartbeats 4000000
namespace Vf
open PySem PySem.Spec PyProof.Rows L2 SX
section
variable {P : Program} {w : World} {K : PySem.W.Frag} {mg : Str → Option Value} {base : Heap}
/-! ### the promises -/
/-! ### a comprehension over a range whose element draws -/
/-! ### x.replace of one sign -/

/-! ### rows of errors -/
/-! ### line tests -/
abbrev Pt : Type := Str × V
def tF (p : Pt) (x y : V) (n : Bool) : List (Str × V) := [("word", .str p.1), ("argument", p.2), ("first", x), ("second", y), ("negated", .bl n)]
def PlAt (C : Addr) (H : Hp) (a : Addr) (p : Pt) (n : Bool) : Prop := ∃ dx, H a = some (.ins C dx (tF p .non .non n))
inductive Tst
  | pl (p : Pt) (n : Bool)
  | rg (p q : Pt) (n : Bool)
def TsAt (C : Addr) (H : Hp) (a : Addr) : Tst → Prop
  | .pl p n => PlAt C H a p n
  | .rg p q n => ∃ dx b c, H a = some (.ins C dx (tF ("from", .non) (.ref b) (.ref c) n)) ∧ PlAt C H b p false ∧ PlAt C H c q false
def Tst.neg : Tst → Bool
  | .pl _ n => n
  | .rg _ _ n => n
def Tst.not : Tst → Tst
  | .pl p _ => .pl p true
  | .rg p q _ => .rg p q true
theorem PlAt.sm {C : Addr} {H H' : Hp} {a : Addr} {p : Pt} {n : Bool} (h : PlAt C H a p n) (s : Same H H') : PlAt C H' a p n := let ⟨dx, e⟩ := h; ⟨dx, s _ _ e⟩
theorem TsAt.sm {C : Addr} {H H' : Hp} {a : Addr} : ∀ {t : Tst}, TsAt C H a t → Same H H' → TsAt C H' a t
  | .pl _ _, h, s => PlAt.sm h s
  | .rg _ _ _, ⟨dx, b, c, e, h1, h2⟩, s => ⟨dx, b, c, s _ _ e, h1.sm s, h2.sm s⟩
inductive OkP : Pt → Prop
  | wd {k : Str} {t : List Nat} (h : k = "begins" ∨ k = "ends" ∨ k = "has" ∨ k = "is") (h1 : t.length ≤ 6) (h2 : ∀ c ∈ t, c ∈ signsL ∧ c ≠ 10) : OkP (k, .str (S t))
  | sh {n : Nat} (h : n ≤ 40) : OkP ("short", .int (n : Int))
  | nu {n : Nat} (h1 : 1 ≤ n) (h2 : n ≤ 6) : OkP ("number", .int (n : Int))
  | ba {k : Str} (h : k = "all" ∨ k = "last") : OkP (k, .non)
def OkT : Tst → Prop
  | .pl p _ => OkP p
  | .rg p q _ => OkP p ∧ OkP q
theorem OkP.nf {p : Pt} (h : OkP p) : p.1 ≠ "from" := by
  cases h with
  | @wd k t h _ _ => exact (show k ≠ "from" by rcases h with h | h | h | h <;> rw [h] <;> decide)
  | sh h => exact (show ("short" : Str) ≠ "from" by decide)
  | nu h1 h2 => exact (show ("number" : Str) ≠ "from" by decide)
  | @ba k h => exact (show k ≠ "from" by rcases h with h | h <;> rw [h] <;> decide)
/-! ### the law's tuples -/
def cT (p : Pt) (x y : V) (n : Bool) : List V := [.str p.1, p.2, x, y, .bl n]
def CkAt (H : Hp) (a : Addr) : Tst → Prop
  | .pl p n => H a = some (.tup (cT p .non .non n))
  | .rg p q n => ∃ b c, H a = some (.tup (cT ("from", .non) (.ref b) (.ref c) n)) ∧ H b = some (.tup (cT p .non .non false)) ∧ H c = some (.tup (cT q .non .non false))
theorem CkAt.tk {H H' : Hp} {a : Addr} : ∀ {t : Tst}, CkAt H a t → Tk H H' → CkAt H' a t
  | .pl _ _, h, s => s _ _ h
  | .rg _ _ _, ⟨b, c, e, h1, h2⟩, s => ⟨b, c, s _ _ e, s _ _ h1, s _ _ h2⟩
theorem CkAt.sm {H H' : Hp} {a : Addr} {t : Tst} (h : CkAt H a t) (s : Same H H') : CkAt H' a t := h.tk (Ks.of s).tk
/-! ### == of tests, as of the tuples -/
def vD : V → PyData
  | .int i => .int i
  | .str x => .str x
  | .bl b => .bool b
  | _ => .none
def cD (p : Pt) (x y : PyData) (n : Bool) : PyData := .tuple [.str p.1, vD p.2, x, y, .bool n]
def tD : Tst → PyData
  | .pl p n => cD p .none .none n
  | .rg p q n => cD ("from", .non) (cD p .none .none false) (cD q .none .none false) n
def eqT (t u : Tst) : Bool := PyData.eqv (tD t) (tD u)
def EqR (C : Addr) (a b : Addr) (r : Bool) (H : Hp) : Prop := ∃ t u, TsAt C H a t ∧ TsAt C H b u ∧ OkT t ∧ OkT u ∧ r = eqT t u
def EqP (C : Addr) (a b : Addr) (r : Bool) (H : Hp) : Prop := ∃ p q n m, PlAt C H a p n ∧ PlAt C H b q m ∧ OkP p ∧ OkP q ∧ r = eqT (.pl p n) (.pl q m)
/-! ### truths -/
def plT (p : Pt) (ls : List Str) (i : Nat) : Bool :=
  if p.1 = "begins" then (match p.2 with | .str y => Txt.startswith (ls.getD i "") y | _ => false)
  else if p.1 = "ends" then (match p.2 with | .str y => Txt.endswith (ls.getD i "") y | _ => false)
  else if p.1 = "has" then (match p.2 with | .str y => !(Builtin.Str.occurrences (ls.getD i "") y 0 (ls.getD i "").length 1).isEmpty | _ => false)
  else if p.1 = "is" then decide (V.str (ls.getD i "") = p.2)
  else if p.1 = "short" then (match p.2 with | .int n => decide (((ls.getD i "").length : Int) ≤ n) | _ => false)
  else if p.1 = "number" then decide (V.int ((i : Int) + 1) = p.2)
  else if p.1 = "last" then decide (V.int ((i : Int) + 1) = V.int (ls.length : Int))
  else true
def plTs (p : Pt) (ls : List Str) : List Bool := (List.range ls.length).map (plT p ls)
def rgT : Bool → List Bool → List Bool → List Bool
  | ins, b :: bs, e :: es => (ins || b) :: rgT (if ins then !e else b) bs es
  | _, _, _ => []
def tT (ls : List Str) : Tst → List Bool
  | .pl p n => (plTs p ls).map (· != n)
  | .rg p q n => (rgT false (plTs p ls) (plTs q ls)).map (· != n)
def LsAt (K : PySem.W.Frag) (H : Hp) (a : Addr) (ls : List Str) : Prop := (SqL K H a (ls.map V.str) ∨ SqT K H a (ls.map V.str)) ∧ ls.length ≤ 1000 ∧ ∀ l ∈ ls, l.length ≤ 1000
theorem LsAt.ks {K : PySem.W.Frag} {H H' : Hp} {a : Addr} {ls : List Str} (h : LsAt K H a ls) (k : Ks H H') : LsAt K H' a ls := ⟨h.1.elim (fun x => .inl (k.seq x)) fun x => .inr (k.seqT x), h.2⟩
/-! ### the program's promises -/
def sp_isText (K : PySem.W.Frag) : Sp := fun vs H Q _ => ∃ x, vs = [x] ∧ ((∃ l, x = .str (S l) ∧ l.length ≤ 100000 ∧ ∀ H', Same H H' → Ks H H' → Q (.bl (l.all isS)) H') ∨ (NotStr K H x ∧ Q (.bl false) H))
def sp_isPatch (K : PySem.W.Frag) : Sp := fun vs H Q _ => ∃ x, vs = [x] ∧ ((∃ l, x = .str (S l) ∧ l.length ≤ 100000 ∧ ∀ H', Same H H' → Q (.bl (l.all isS && decide (l.length ≤ 6))) H') ∨ (NotStr K H x ∧ Q (.bl false) H))
def lw (l : List Nat) : Bool := (l.all isS && decide (l.length ≤ 6)) && !decide (10 ∈ l)
def sp_isLineWord (K : PySem.W.Frag) : Sp := fun vs H Q _ => ∃ x, vs = [x] ∧ ((∃ l, x = .str (S l) ∧ l.length ≤ 100000 ∧ ∀ H', Same H H' → Q (.bl (lw l)) H') ∨ (NotStr K H x ∧ Q (.bl false) H))
/-- what isinstance says of a value and int, bool -/
def Whole (K : PySem.W.Frag) (H : Hp) (x : V) (r : Bool) : Prop := ∃ (t : Value) (b1 b2 : Bool), TyX K H x t ∧ PySem.W.kitOne K t (.type "int") = some b1 ∧ PySem.W.kitOne K t (.type "bool") = some b2 ∧ r = (b1 && !b2)
def sp_isWhole (K : PySem.W.Frag) : Sp := fun vs H Q _ => ∃ x r, vs = [x] ∧ Whole K H x r ∧ Q (.bl r) H
def sp_isWithin (K : PySem.W.Frag) : Sp := fun vs H Q _ => ∃ (x : V) (a : Addr) (lo hi : Int), vs = [x, .ref a] ∧ SqT K H a [.int lo, .int hi] ∧ ((Whole K H x false ∧ Q (.bl false) H) ∨ ∃ i : Int, x = .int i ∧ Q (.bl (decide (lo ≤ i) && decide (i ≤ hi))) H)
def sp_LineTest_init (C : Addr) : Sp := fun vs H Q _ => ∃ (a dx pa : Addr) (k : Str) (g x y : V) (n : Bool), vs = [.ref a, .str k, g, .ref pa, .bl n] ∧ H a = some (.ins C dx []) ∧ H pa = some (.tup [x, y]) ∧ Q .non (upd H a (.ins C dx (tF (k, g) x y n)))
def sp_LineTest_eq (C : Addr) : Sp := spEqI (EqR C)
def sp_LineTest_eqP (C : Addr) : Sp := spEqI (EqP C)
def trPost (bs : List Bool) (H : Hp) (Q : VK) : Prop := ∀ (H' : Hp) (tp : Addr), Same H H' → H' tp = some (.tup (bs.map V.bl)) → Q (.ref tp) H'
def sp_LineTest_truths (K : PySem.W.Frag) (C : Addr) : Sp := fun vs H Q _ => ∃ (a la : Addr) (t : Tst) (ls : List Str), vs = [.ref a, .ref la] ∧ TsAt C H a t ∧ OkT t ∧ LsAt K H la ls ∧ trPost (tT ls t) H Q
def sp_LineTest_truthsP (K : PySem.W.Frag) (C : Addr) : Sp := fun vs H Q _ => ∃ (a la : Addr) (p : Pt) (n : Bool) (ls : List Str), vs = [.ref a, .ref la] ∧ PlAt C H a p n ∧ OkP p ∧ LsAt K H la ls ∧ trPost (tT ls (.pl p n)) H Q
def sp_plainTruth (K : PySem.W.Frag) (C : Addr) : Sp := fun vs H Q _ => ∃ (a la : Addr) (p : Pt) (n : Bool) (ls : List Str) (i : Nat), vs = [.ref a, .ref la, .int (i : Int)] ∧ PlAt C H a p n ∧ OkP p ∧ LsAt K H la ls ∧ i < ls.length ∧ Q (.bl (plT p ls i)) H
def sp_rangeTruths (K : PySem.W.Frag) : Sp := fun vs H Q _ => ∃ (x y : Addr) (bs es : List Bool), vs = [.ref x, .ref y] ∧ H x = some (.tup (bs.map V.bl)) ∧ H y = some (.tup (es.map V.bl)) ∧ bs.length = es.length ∧ bs.length ≤ 1000 ∧ ∀ (H' : Hp) (l : Addr), Same H H' → H' l = some (.lst ((rgT false bs es).map V.bl)) → Q (.ref l) H'
/-- the errors of making -/
inductive Er
  | word (w : Str)
  | num (w : Str) (v : V)
def ErAt (CB CN : Addr) (H : Hp) (e : Er) (E : XK) : Prop := ∀ (d : Addr) (H' : Hp), Same H H' → (match e with
  | .word w => H' d = some (.xd [("what", .str w)])
  | .num w v => H' d = some (.xd [("number", v), ("what", .str w)])) → E (match e with | .word _ => .ref CB | .num _ _ => .ref CN) (some d) H'
def isW (k : Str) : Prop := k = "begins" ∨ k = "ends" ∨ k = "has" ∨ k = "is"
/-- what plain_test says of these arguments: well, or how it refuses -/
inductive PtR (K : PySem.W.Frag) (H : Hp) : V → V → Option Er → Prop
  | ok {p : Pt} (h : OkP p) : PtR K H (.str p.1) p.2 none
  | noText {v g : V} (h : NotStr K H v) : PtR K H v g (some (.word "test"))
  | noTest {x : Str} {g : V} (h : inV (.str x) [.str "begins", .str "ends", .str "has", .str "is", .str "short", .str "number", .str "all", .str "last"] = false) : PtR K H (.str x) g (some (.word "test"))
  | noWord {k : Str} {g : V} (h : isW k) (h2 : NotStr K H g ∨ ∃ l, g = .str (S l) ∧ l.length ≤ 100000 ∧ lw l = false) : PtR K H (.str k) g (some (.word "argument"))
  | noNum {k : Str} {g : V} {lo hi : Int} (h : (k = "short" ∧ lo = 0 ∧ hi = 40) ∨ (k = "number" ∧ lo = 1 ∧ hi = 6)) (h2 : Whole K H g false ∨ ∃ i : Int, g = .int i ∧ (i < lo ∨ hi < i)) : PtR K H (.str k) g (some (.num k g))
  | noBare {k : Str} {g : V} (h : k = "all" ∨ k = "last") (h2 : g ≠ .non) : PtR K H (.str k) g (some (.word "argument"))
def sp_plainTest (K : PySem.W.Frag) (CL CB CN : Addr) : Sp := fun vs H Q E => ∃ x g o, vs = [x, g] ∧ PtR K H x g o ∧ (o = none → ∀ (H' : Hp) (a : Addr) (k : Str), x = .str k → Same H H' → PlAt CL H' a (k, g) false → Q (.ref a) H') ∧ ∀ e, o = some e → ErAt CB CN H e E
/-- no plain test at all -/
def NoPl (K : PySem.W.Frag) (CL : Addr) (H : Hp) (x : V) : Prop := (∃ t, TyX K H x t ∧ PySem.W.kitOne K t (.ref CL) = some false) ∨ ∃ a dx p u v n, x = .ref a ∧ H a = some (.ins CL dx (tF p u v n)) ∧ (p.1 = "from" ∨ n = true)
def sp_isPlain (K : PySem.W.Frag) (CL : Addr) : Sp := fun vs H Q _ => ∃ x, vs = [x] ∧ ((NoPl K CL H x ∧ Q (.bl false) H) ∨ ∃ a dx p u v, x = .ref a ∧ H a = some (.ins CL dx (tF p u v false)) ∧ p.1 ≠ "from" ∧ Q (.bl true) H)
def sp_rangeTest (K : PySem.W.Frag) (CL CB CN : Addr) : Sp := fun vs H Q E => ∃ x y, vs = [x, y] ∧
  ((NoPl K CL H x ∧ ErAt CB CN H (.word "first") E) ∨ ∃ a dx p u v, x = .ref a ∧ H a = some (.ins CL dx (tF p u v false)) ∧ p.1 ≠ "from" ∧
    ((NoPl K CL H y ∧ ErAt CB CN H (.word "second") E) ∨ ∃ b dx' p' u' v', y = .ref b ∧ H b = some (.ins CL dx' (tF p' u' v' false)) ∧ p'.1 ≠ "from" ∧
      ∀ (H' : Hp) (c dz : Addr), Same H H' → H' c = some (.ins CL dz (tF ("from", .non) (.ref a) (.ref b) false)) → Q (.ref c) H'))
def sp_otherTest (K : PySem.W.Frag) (CL CB CN : Addr) : Sp := fun vs H Q E => ∃ x, vs = [x] ∧
  ((((∃ t, TyX K H x t ∧ PySem.W.kitOne K t (.ref CL) = some false) ∨ ∃ a dx p u v, x = .ref a ∧ H a = some (.ins CL dx (tF p u v true))) ∧ ErAt CB CN H (.word "test") E) ∨
    ∃ a dx p u v, x = .ref a ∧ H a = some (.ins CL dx (tF p u v false)) ∧ ∀ (H' : Hp) (c dz : Addr), Same H H' → H' c = some (.ins CL dz (tF p u v true)) → Q (.ref c) H')
/-- the class of tests: its own facts -/
structure CaL (K : PySem.W.Frag) (CL : Addr) : Prop where
  i : C8.InsC K CL
  a1 : NoAttr K CL "word"
  a2 : NoAttr K CL "argument"
  a3 : NoAttr K CL "first"
  a4 : NoAttr K CL "second"
  a5 : NoAttr K CL "negated"
structure CoL (P : Program) (w : World) (K : PySem.W.Frag) (mg : Str → Option Value) (base : Heap) (CL : Addr) : Prop where
  g_LineTest : mg "LineTest" = some (.ref CL)
  m_LineTest : C8.Mak P w K mg base 1 "LineTest" CL (sp_LineTest_init CL) []
  i : C8.InsC K CL
  a1 : NoAttr K CL "word"
  a2 : NoAttr K CL "argument"
  a3 : NoAttr K CL "first"
  a4 : NoAttr K CL "second"
  a5 : NoAttr K CL "negated"
section
variable {X : Cx} {C : Addr} {R : Addr → Addr → Bool → Hp → Prop} {k j : Nat}
theorem op_neC (c : Eqc X.prog X.w X.K X.mg X.base k C R) (hr : Room j X.A) (hj : k + 1 ≤ j) : OpR X (compareOp .NotEq) (rEqI C true R) := by
  obtain ⟨f, fd, ps, O, F, b⟩ := c.ex
  exact op_neI O F b hr hj
end


end
end Vf

set_option maxRecDepth 100000
set_option maxHeartbeats 4000000
namespace Vf
open PySem PySem.Spec PyProof.Rows L2 SX
section
variable {P : Program} {w : World} {K : PySem.W.Frag} {mg : Str → Option Value} {base : Heap}
theorem beqD {α : Type} [BEq α] [LawfulBEq α] [DecidableEq α] (a b : α) : (a == b) = decide (a = b) := by
  by_cases e : a = b
  · subst e; rw [decide_eq_true rfl]; exact beq_self_eq_true _
  · rw [decide_eq_false e]; exact beq_eq_false_iff_ne.mpr e
theorem eqT_pl (p q : Pt) (n m : Bool) : eqT (.pl p n) (.pl q m) = (decide (p.1 = q.1) && (PyData.eqv (vD p.2) (vD q.2) && decide (n = m))) := by
  show PyData.eqv (cD p .none .none n) (cD q .none .none m) = _
  unfold cD
  simp [PyData.eqv, PyData.eqvAll, beqD]
theorem eqT_rg (p q p' q' : Pt) (n m : Bool) : eqT (.rg p q n) (.rg p' q' m) = (eqT (.pl p false) (.pl p' false) && (eqT (.pl q false) (.pl q' false) && decide (n = m))) := by
  show PyData.eqv (cD ("from", .non) (cD p .none .none false) (cD q .none .none false) n) (cD ("from", .non) (cD p' .none .none false) (cD q' .none .none false) m) = (PyData.eqv (cD p .none .none false) (cD p' .none .none false) && (PyData.eqv (cD q .none .none false) (cD q' .none .none false) && _))
  rw [show cD ("from", .non) (cD p .none .none false) (cD q .none .none false) n = .tuple [.str "from", .none, cD p .none .none false, cD q .none .none false, .bool n] from rfl, show cD ("from", .non) (cD p' .none .none false) (cD q' .none .none false) m = .tuple [.str "from", .none, cD p' .none .none false, cD q' .none .none false, .bool m] from rfl]
  simp [PyData.eqv, PyData.eqvAll, beqD]
theorem eqT_plrg {p q q' : Pt} {n m : Bool} (h : OkP p) : eqT (.pl p n) (.rg q q' m) = false := by
  show PyData.eqv (.tuple [.str p.1, vD p.2, .none, .none, .bool n]) (.tuple [.str "from", .none, cD q .none .none false, cD q' .none .none false, .bool m]) = false
  have : (p.1 == ("from" : Str)) = false := beq_eq_false_iff_ne.mpr h.nf
  simp [PyData.eqv, PyData.eqvAll, this]
theorem eqv_head (a b : PyData) (as bs : List PyData) : PyData.eqv (.tuple (a :: as)) (.tuple (b :: bs)) = (PyData.eqv a b && PyData.eqvAll as bs) := by rw [PyData.eqv, PyData.eqvAll]
theorem eqT_rgpl {p q q' : Pt} {n m : Bool} (h : OkP p) : eqT (.rg q q' m) (.pl p n) = false := by
  show PyData.eqv (.tuple [.str "from", .none, cD q .none .none false, cD q' .none .none false, .bool m]) (.tuple [.str p.1, vD p.2, .none, .none, .bool n]) = false
  rw [eqv_head, PyData.eqv, beq_eq_false_iff_ne.mpr fun z => h.nf z.symm, Bool.false_and]
theorem sg_ok {l : List Nat} (h : ∀ c ∈ l, c ∈ signsL) : PyData.strOk (S l) = true := strOk_S fun c hc => (show ∀ c ∈ signsL, c < 1000 by decide) c (h c hc)
/-- a scalar's data -/
theorem sc_dp {K : PySem.W.Frag} {H : Hp} {p : Pt} (h : OkP p) : Dp K H p.2 (vD p.2) ∧ SeqAt.shaped (vD p.2) = true := by
  cases h with
  | @wd k t h h1 h2 => exact ⟨.str _, by
      have := sg_ok fun c hc => (h2 c hc).1
      simp [SeqAt.shaped, vD, PyData.canLay0, PyData.depth, this]⟩
  | sh h => exact ⟨.int _, by simp [SeqAt.shaped, vD, PyData.canLay0, PyData.depth]⟩
  | nu h1 h2 => exact ⟨.int _, by simp [SeqAt.shaped, vD, PyData.canLay0, PyData.depth]⟩
  | ba h => exact ⟨.non, by simp [SeqAt.shaped, vD, PyData.canLay0, PyData.depth]⟩


end
end Vf

set_option maxRecDepth 100000
set_option maxHeartbeats 4000000
namespace Vf
open PySem PySem.Spec PyProof.Rows L2 SX
section
variable {P : Program} {w : World} {K : PySem.W.Frag} {mg : Str → Option Value} {base : Heap}
section
variable {ls : List Str} {i : Nat} {y : Str} {l : Str} (hl : ls.getD i "" = l)
include hl
theorem plT_begins : plT ("begins", .str y) ls i = Txt.startswith l y := by
  unfold plT; rw [if_pos rfl, hl]
theorem plT_ends : plT ("ends", .str y) ls i = Txt.endswith l y := by
  unfold plT; rw [if_neg (by dsimp only; decide), if_pos rfl, hl]
theorem plT_has : plT ("has", .str y) ls i = !(Builtin.Str.occurrences l y 0 l.length 1).isEmpty := by
  unfold plT; rw [if_neg (by dsimp only; decide), if_neg (by dsimp only; decide), if_pos rfl, hl]
theorem plT_is {v : V} : plT ("is", v) ls i = decide (V.str l = v) := by
  unfold plT; rw [if_neg (by dsimp only; decide), if_neg (by dsimp only; decide), if_neg (by dsimp only; decide), if_pos rfl, hl]
theorem plT_short {n : Int} : plT ("short", .int n) ls i = decide ((l.length : Int) ≤ n) := by
  unfold plT; rw [if_neg (by dsimp only; decide), if_neg (by dsimp only; decide), if_neg (by dsimp only; decide), if_neg (by dsimp only; decide), if_pos rfl, hl]
end
theorem plT_number {ls : List Str} {i : Nat} {v : V} : plT ("number", v) ls i = decide (V.int ((i : Int) + 1) = v) := by
  unfold plT; rw [if_neg (by dsimp only; decide), if_neg (by dsimp only; decide), if_neg (by dsimp only; decide), if_neg (by dsimp only; decide), if_neg (by dsimp only; decide), if_pos rfl]
theorem plT_last {ls : List Str} {i : Nat} {v : V} : plT ("last", v) ls i = decide (V.int ((i : Int) + 1) = V.int (ls.length : Int)) := by
  unfold plT; rw [if_neg (by dsimp only; decide), if_neg (by dsimp only; decide), if_neg (by dsimp only; decide), if_neg (by dsimp only; decide), if_neg (by dsimp only; decide), if_neg (by dsimp only; decide), if_pos rfl]
theorem plT_all {ls : List Str} {i : Nat} {v : V} : plT ("all", v) ls i = true := by
  unfold plT; rw [if_neg (by dsimp only; decide), if_neg (by dsimp only; decide), if_neg (by dsimp only; decide), if_neg (by dsimp only; decide), if_neg (by dsimp only; decide), if_neg (by dsimp only; decide), if_neg (by dsimp only; decide)]
theorem ls_at {ls : List Str} {i : Nat} (hi : i < ls.length) : atI (ls.map V.str) (i : Int) = some (.str (ls[i])) ∧ ls.getD i "" = ls[i] := by
  refine ⟨atI_nat (by rw [List.getElem?_map, List.getElem?_eq_getElem hi]; rfl), ?_⟩
  rw [List.getD_eq_getElem?_getD, List.getElem?_eq_getElem hi]
  rfl


end
end Vf

set_option maxRecDepth 100000
set_option maxHeartbeats 4000000
namespace Vf
open PySem PySem.Spec PyProof.Rows L2 SX
section
variable {P : Program} {w : World} {K : PySem.W.Frag} {mg : Str → Option Value} {base : Heap}
theorem tyx_sm {K : PySem.W.Frag} {H H' : Hp} (s : Same H H') {x : V} {t : Value} (h : TyX K H x t) : TyX K H' x t := by
  cases h with
  | base b =>
    refine .base ?_
    cases b with
    | non => exact .non
    | bl x => exact .bl x
    | int i => exact .int i
    | str x => exact .str x
    | flt x => exact .flt x
    | lst e => exact .lst (s _ _ e)
    | frz e => exact .frz (s _ _ e)
    | tup e => exact .tup (s _ _ e)
    | dK e => exact .dK (s _ _ e)
    | dT e => exact .dT (s _ _ e)
    | ins e cl ha hn htk hm => exact .ins (s _ _ e) cl ha hn htk hm
  | byt b => exact .byt b
  | set e => exact .set (s _ _ e)
  | kList e c => exact .kList e c
  | kTuple e c => exact .kTuple e c
  | kDict e c => exact .kDict e c
  | fTuple e => exact .fTuple (s _ _ e)
  | fDict e => exact .fDict (s _ _ e)
theorem NotStr.sm {K : PySem.W.Frag} {H H' : Hp} {x : V} (h : NotStr K H x) (s : Same H H') : NotStr K H' x := let ⟨t, a, b⟩ := h; ⟨t, tyx_sm s a, b⟩
theorem Whole.sm {K : PySem.W.Frag} {H H' : Hp} {x : V} {r : Bool} (h : Whole K H x r) (s : Same H H') : Whole K H' x r := let ⟨t, b1, b2, a, b, c, d⟩ := h; ⟨t, b1, b2, tyx_sm s a, b, c, d⟩
abbrev l4 : List V := [.str "begins", .str "ends", .str "has", .str "is"]
abbrev l2 : List V := [.str "short", .str "number"]
abbrev lB : List V := [.str "all", .str "last"]
abbrev l8 : List V := [.str "begins", .str "ends", .str "has", .str "is", .str "short", .str "number", .str "all", .str "last"]
theorem cl_w {k : Str} (h : isW k) : inV (.str k) l8 = true ∧ inV (.str k) l4 = true ∧ inV (.str k) l2 = false ∧ inV (.str k) lB = false := by
  rcases h with h | h | h | h <;> subst h <;> decide
theorem cl_n {k : Str} (h : k = "short" ∨ k = "number") : inV (.str k) l8 = true ∧ inV (.str k) l4 = false ∧ inV (.str k) l2 = true ∧ inV (.str k) lB = false := by
  rcases h with h | h <;> subst h <;> decide
theorem cl_b {k : Str} (h : k = "all" ∨ k = "last") : inV (.str k) l8 = true ∧ inV (.str k) l4 = false ∧ inV (.str k) l2 = false ∧ inV (.str k) lB = true := by
  rcases h with h | h <;> subst h <;> decide
theorem okp_cl {p : Pt} (h : OkP p) : (isW p.1 ∧ ∃ l, p.2 = .str (S l) ∧ l.length ≤ 100000 ∧ lw l = true) ∨ ((∃ lo hi : Int, ((p.1 = "short" ∧ lo = 0 ∧ hi = 40) ∨ (p.1 = "number" ∧ lo = 1 ∧ hi = 6)) ∧ ∃ i : Int, p.2 = .int i ∧ lo ≤ i ∧ i ≤ hi)) ∨ ((p.1 = "all" ∨ p.1 = "last") ∧ p.2 = .non) := by
  cases h with
  | @wd k t h h1 h2 =>
    refine .inl ⟨h, t, rfl, by omega, ?_⟩
    unfold lw
    have a : t.all isS = true := List.all_eq_true.mpr fun c hc => decide_eq_true (h2 c hc).1
    have b : decide (10 ∈ t) = false := decide_eq_false fun z => (h2 10 z).2 rfl
    rw [a, b, decide_eq_true h1]
    rfl
  | @sh n h => exact .inr (.inl ⟨0, 40, .inl ⟨rfl, rfl, rfl⟩, n, rfl, by omega, by omega⟩)
  | @nu n h1 h2 => exact .inr (.inl ⟨1, 6, .inr ⟨rfl, rfl, rfl⟩, n, rfl, by omega, by omega⟩)
  | ba h => exact .inr (.inr ⟨h, rfl⟩)
/-- the first question: is it a test's word -/
theorem pt_one {K : PySem.W.Frag} {H : Hp} {x g : V} {o : Option Er} (h : PtR K H x g o) : (NotStr K H x ∧ o = some (.word "test")) ∨ (∃ k, x = .str k ∧ inV (.str k) l8 = false ∧ o = some (.word "test")) ∨ ∃ k, x = .str k ∧ inV (.str k) l8 = true := by
  cases h with
  | @ok p h => exact .inr (.inr ⟨_, rfl, (okp_cl h).elim (fun z => (cl_w z.1).1) fun z => z.elim (fun ⟨_, _, z, _⟩ => (cl_n (z.elim (fun z => .inl z.1) fun z => .inr z.1)).1) fun z => (cl_b z.1).1⟩)
  | noText h => exact .inl ⟨h, rfl⟩
  | noTest h => exact .inr (.inl ⟨_, rfl, h, rfl⟩)
  | noWord h h2 => exact .inr (.inr ⟨_, rfl, (cl_w h).1⟩)
  | noNum h h2 => exact .inr (.inr ⟨_, rfl, (cl_n (h.elim (fun z => .inl z.1) fun z => .inr z.1)).1⟩)
  | noBare h h2 => exact .inr (.inr ⟨_, rfl, (cl_b h).1⟩)
/-- the others, of a test's word -/
theorem pt_two {K : PySem.W.Frag} {H : Hp} {k : Str} {g : V} {o : Option Er} (h : PtR K H (.str k) g o) (h8 : inV (.str k) l8 = true) :
    (inV (.str k) l4 = true ∧ inV (.str k) l2 = false ∧ inV (.str k) lB = false ∧ (((NotStr K H g ∨ ∃ l, g = .str (S l) ∧ l.length ≤ 100000 ∧ lw l = false) ∧ o = some (.word "argument")) ∨ ((∃ l, g = .str (S l) ∧ l.length ≤ 100000 ∧ lw l = true) ∧ o = none))) ∨
    (inV (.str k) l4 = false ∧ inV (.str k) l2 = true ∧ inV (.str k) lB = false ∧ ∃ lo hi : Int, ((k = "short" ∧ lo = 0 ∧ hi = 40) ∨ (k = "number" ∧ lo = 1 ∧ hi = 6)) ∧ (((Whole K H g false ∨ ∃ i : Int, g = .int i ∧ (i < lo ∨ hi < i)) ∧ o = some (.num k g)) ∨ ((∃ i : Int, g = .int i ∧ lo ≤ i ∧ i ≤ hi) ∧ o = none))) ∨
    (inV (.str k) l4 = false ∧ inV (.str k) l2 = false ∧ inV (.str k) lB = true ∧ ((g ≠ .non ∧ o = some (.word "argument")) ∨ (g = .non ∧ o = none))) := by
  have noP : ∀ {a b : Str}, V.str a = V.str b → a = b := fun z => V.str.inj z
  generalize hx : V.str k = x at h
  cases h with
  | @ok p h =>
    obtain rfl : k = p.1 := noP hx
    rcases okp_cl h with ⟨z, y⟩ | ⟨lo, hi, z, y⟩ | ⟨z, y⟩
    · obtain ⟨_, c1, c2, c3⟩ := cl_w z
      exact .inl ⟨c1, c2, c3, .inr ⟨y, rfl⟩⟩
    · obtain ⟨_, c1, c2, c3⟩ := cl_n (z.elim (fun z => .inl z.1) fun z => .inr z.1)
      exact .inr (.inl ⟨c1, c2, c3, lo, hi, z, .inr ⟨y, rfl⟩⟩)
    · obtain ⟨_, c1, c2, c3⟩ := cl_b z
      exact .inr (.inr ⟨c1, c2, c3, .inr ⟨y, rfl⟩⟩)
  | noText h =>
    subst hx
    obtain ⟨t, ty, e⟩ := h
    exfalso
    cases ty with
    | base b =>
      cases b with
      | str x =>
        have : PySem.W.kitOne K (.type "str") (.type "str") = some true := kit_ty (by decide +kernel)
        rw [this] at e
        cases e
  | noTest h =>
    obtain rfl := noP hx
    rw [h] at h8
    cases h8
  | noWord h h2 =>
    obtain rfl := noP hx
    obtain ⟨_, c1, c2, c3⟩ := cl_w h
    exact .inl ⟨c1, c2, c3, .inl ⟨h2, rfl⟩⟩
  | noNum h h2 =>
    obtain rfl := noP hx
    obtain ⟨_, c1, c2, c3⟩ := cl_n (h.elim (fun z => .inl z.1) fun z => .inr z.1)
    exact .inr (.inl ⟨c1, c2, c3, _, _, h, .inl ⟨h2, rfl⟩⟩)
  | noBare h h2 =>
    obtain rfl := noP hx
    obtain ⟨_, c1, c2, c3⟩ := cl_b h
    exact .inr (.inr ⟨c1, c2, c3, .inl ⟨h2, rfl⟩⟩)
/-- a new instance beside what stands -/
theorem made_same {H0 H : Hp} {a dx C : Addr} {fs fs' : List (Str × V)} (s : Same H0 H) (h1 : H a = none) (h2 : H dx = none) : Same H0 (upd (upd (upd H dx (.own a)) a (.ins C dx fs)) a (.ins C dx fs')) := fun b o e => by
  have e' := s b o e
  rw [upd_ne (ne_of_none e' h1), upd_ne (ne_of_none e' h1), upd_ne (ne_of_none e' h2)]
  exact e'


end
end Vf

set_option maxRecDepth 100000
set_option maxHeartbeats 4000000
namespace Vf
open PySem PySem.Spec PyProof.Rows L2 SX
section
variable {P : Program} {w : World} {K : PySem.W.Frag} {mg : Str → Option Value} {base : Heap}
def sgn (l : List Nat) : Prop := ∀ c ∈ l, c ∈ signsL ∧ c ≠ 10
theorem sgn_lt {l : List Nat} (h : sgn l) : ∀ z ∈ l, z < 1000 := fun z hz => (show ∀ c ∈ signsL, c < 1000 by decide) z (h z hz).1
def sp_lawWordT : Sp := fun vs H Q _ => ∃ (p c : Addr) (m n : Nat) (sg : List Nat), vs = [.ref p, .str (S sg), .int (n : Int)] ∧ PenAt H p c m ∧ m < 800000 ∧ 1 ≤ n ∧ n ≤ 1000 ∧ 1 ≤ sg.length ∧ sg.length ≤ 1000 ∧
  ∀ (H' : Hp) (t : List Nat), Ks H H' → PenAt H' p c (m + 1 + n) → 1 ≤ t.length → t.length ≤ n → (∀ z ∈ t, z ∈ sg) → Q (.str (S t)) H'
def sp_lawText : Sp := fun vs H Q _ => ∃ (p c : Addr) (m n : Nat) (sg : List Nat), vs = [.ref p, .str (S sg), .int (n : Int)] ∧ PenAt H p c m ∧ m < 800000 ∧ n ≤ 1000 ∧ sg.length ≤ 1000 ∧ (∀ z ∈ sg, z < 1000) ∧
  ∀ (H' : Hp) (t : List Nat), Ks H H' → PenAt H' p c (m + 1 + n) → t.length ≤ n → (∀ z ∈ t, z < 1000) → Q (.str (S t)) H'
theorem hu65 {k : Nat} {A : Around} (r : Room k A) : A.units + 65 < cLine := by have := r.un; omega
/-! ### the law's promises -/
def sp_signs : Sp := fun vs H Q _ => ∃ (p c : Addr) (m : Nat), vs = [.ref p] ∧ PenAt H p c m ∧ m < 900000 ∧ ∀ (H' : Hp) (l : List Nat), Ks H H' → PenAt H' p c (m + 1) → 1 ≤ l.length → l.length ≤ 3 → sgn l → Q (.str (S l)) H'
def sp_patch : Sp := fun vs H Q _ => ∃ (p c : Addr) (m n : Nat) (sg : List Nat), vs = [.ref p, .str (S sg), .int (n : Int)] ∧ PenAt H p c m ∧ m < 700000 ∧ 1 ≤ n ∧ n ≤ 6 ∧ 1 ≤ sg.length ∧ sg.length ≤ 1000 ∧
  ∀ (H' : Hp) (t : List Nat), Ks H H' → PenAt H' p c (m + 8) → t.length ≤ n → (∀ z ∈ t, z ∈ sg) → Q (.str (S t)) H'
def sp_lawPlainTest : Sp := fun vs H Q _ => ∃ (p c : Addr) (m : Nat) (sg : List Nat), vs = [.ref p, .str (S sg)] ∧ PenAt H p c m ∧ m < 600000 ∧ 1 ≤ sg.length ∧ sg.length ≤ 1000 ∧ sgn sg ∧
  ∀ (H' : Hp) (a : Addr) (z : Pt), Ks H H' → PenAt H' p c (m + 10) → OkP z → H' a = some (.tup (cT z .non .non false)) → Q (.ref a) H'
def sp_lawTest : Sp := fun vs H Q _ => ∃ (p c : Addr) (m : Nat) (sg : List Nat), vs = [.ref p, .str (S sg)] ∧ PenAt H p c m ∧ m < 500000 ∧ 1 ≤ sg.length ∧ sg.length ≤ 1000 ∧ sgn sg ∧
  ∀ (H' : Hp) (a : Addr) (t : Tst), Ks H H' → PenAt H' p c (m + 30) → OkT t → CkAt H' a t → Q (.ref a) H'
def sp_longWord : Sp := fun vs H Q _ => ∃ (p c : Addr) (m : Nat), vs = [.ref p] ∧ PenAt H p c m ∧ m < 900000 ∧ ∀ (H' : Hp) (l : List Nat), Ks H H' → PenAt H' p c (m + 1) → 1 ≤ l.length → l.length ≤ 6 → sgn l → Q (.str (S l)) H'
def sp_longText : Sp := fun vs H Q _ => ∃ (p c : Addr) (m : Nat), vs = [.ref p] ∧ PenAt H p c m ∧ m < 500000 ∧ ∀ (H' : Hp) (l : List Nat), Ks H H' → PenAt H' p c (m + 60) → l.length ≤ 100 → (∀ z ∈ l, z < 1000) → Q (.str (S l)) H'
def sp_longTest : Sp := fun vs H Q _ => ∃ (p c : Addr) (m : Nat), vs = [.ref p] ∧ PenAt H p c m ∧ m < 500000 ∧ ∀ (H' : Hp) (a : Addr) (t : Tst), Ks H H' → PenAt H' p c (m + 30) → OkT t → CkAt H' a t → Q (.ref a) H'
def sp_testMade (CL : Addr) : Sp := fun vs H Q _ => ∃ (a : Addr) (t : Tst), vs = [.ref a] ∧ CkAt H a t ∧ OkT t ∧ ∀ (H' : Hp) (o : Addr), Same H H' → TsAt CL H' o t → Q (.ref o) H'
def sp_testMadeP (CL : Addr) : Sp := fun vs H Q _ => ∃ (a : Addr) (p : Pt) (n : Bool), vs = [.ref a] ∧ CkAt H a (.pl p n) ∧ OkP p ∧ ∀ (H' : Hp) (o : Addr), Same H H' → TsAt CL H' o (.pl p n) → Q (.ref o) H'
def sp_lawPlainTruth (K : PySem.W.Frag) : Sp := fun vs H Q _ => ∃ (a la : Addr) (p : Pt) (x y : V) (n : Bool) (ls : List Str) (i : Nat), vs = [.ref a, .ref la, .int (i : Int)] ∧ H a = some (.tup (cT p x y n)) ∧ OkP p ∧ SqL K H la (ls.map V.str) ∧ ls.length ≤ 1000 ∧ (∀ l ∈ ls, l.length ≤ 1000) ∧ i < ls.length ∧ ∀ H', Same H H' → Q (.bl (plT p ls i)) H'
def sp_lawTruths (K : PySem.W.Frag) : Sp := fun vs H Q _ => ∃ (a la : Addr) (t : Tst) (ls : List Str), vs = [.ref a, .ref la] ∧ CkAt H a t ∧ OkT t ∧ SqL K H la (ls.map V.str) ∧ ls.length ≤ 1000 ∧ (∀ l ∈ ls, l.length ≤ 1000) ∧ ∀ (H' : Hp) (L : Addr), Same H H' → H' L = some (.lst ((tT ls t).map V.bl)) → Q (.ref L) H'
def sp_isMadeRight (CL : Addr) : Sp := fun vs H Q _ => ∃ (a : Addr) (t : Tst), vs = [.ref a] ∧ CkAt H a t ∧ OkT t ∧ ∀ H', Same H H' → Q (.bl true) H'
def sp_byHand : Sp := fun vs H Q _ => vs = [] ∧ ∀ H', Same H H' → Q (.bl true) H'


end
end Vf

set_option maxRecDepth 100000
set_option maxHeartbeats 4000000
namespace Vf
open PySem PySem.Spec PyProof.Rows L2 SX
section
variable {P : Program} {w : World} {K : PySem.W.Frag} {mg : Str → Option Value} {base : Heap}
theorem pi_or {X : Cx} {tg e : Expr} {t1 t2 : TI} (a : PI X tg e t1) (b : PI X tg e t2) : PI X tg e (fun σ H R => t1 σ H R ∨ t2 σ H R) := ⟨fun pins s σ H R I h => h.elim (a.run pins s σ H R I) (b.run pins s σ H R I)⟩
/-- values of other kinds are no instances of the class -/
structure Fgn (K : PySem.W.Frag) (C : Addr) : Prop where
  k : ∀ n ∈ (["NoneType", "str", "int", "list"] : List String), PySem.W.kitOne K (.type n) (.ref C) = some false ∧ PySem.W.subIn K (.type n) (.ref C) = some false
  r : PySem.W.subIn K (.ref C) (.type "NoneType") = some false
theorem call_isiK {X : Cx} {K : PySem.W.Frag} (h : X.K = K) : CallR X (.builtin "isinstance") (rIsi K) := by subst h; exact call_isi
/-! ### is it a key of the dict -/
theorem op_inKD {X : Cx} {K : PySem.W.Frag} {w : World} (hK : X.K = K) (hw : X.w = w) : OpR X (compareOp .In) (fun x y H Q => ∃ (z : Str) (d : Addr) (f : Str → Option V), x = .str z ∧ y = .ref d ∧ KD K w d f ∧ Q (.bl (f z).isSome) H) := by
  subst hK; subst hw
  intro pins s σ H x y v u Q I rx ry h
  obtain ⟨z, d, f, rfl, rfl, ⟨es, n, lk, lit, low, hf⟩, q⟩ := h
  obtain ⟨t, rfl⟩ := rx
  cases ry
  refine wpAny_in_of (PySem.strKind_is X.prog X.w z t) low (PySem.W.mapOf_K (prog := X.prog) I.kIn lk lit) ?_
  have e : (findBy Value.isStrOf es z).isSome = (f z).isSome := by
    have := hf z
    cases h1 : f z <;> cases h2 : findBy Value.isStrOf es z <;> rw [h1, h2] at this <;> first | rfl | exact this.elim
  refine ⟨.bl (f z).isSome, H, I.tok _, ?_, q⟩
  show Value.bool _ = Value.bool _
  first
    | rw [← e]; rfl
    | exact congrArg Value.bool e
/-! ### steps -/
structure Stp where
  w : Str
  o : Option (List Nat)
  n : Option (List Nat)
  k : Bool
  t : Option Tst
def oV : Option (List Nat) → V
  | none => .non
  | some l => .str (S l)
def kV (k : Bool) : V := if k = true then .str "code" else .non
def sF (s : Stp) (tv : V) : List (Str × V) := [("word", .str s.w), ("old", oV s.o), ("new", oV s.n), ("kind", kV s.k), ("test", tv), ("guard", .non), ("asks_kinds", .bl s.k)]
def TvP (CL : Addr) (H : Hp) : Option Tst → V → Prop
  | none, v => v = .non
  | some t, v => ∃ c, v = .ref c ∧ TsAt CL H c t
def TvL (H : Hp) : Option Tst → V → Prop
  | none, v => v = .non
  | some t, v => ∃ c, v = .ref c ∧ CkAt H c t
def StAt (CL CS : Addr) (H : Hp) (a : Addr) (s : Stp) : Prop := ∃ dx tv, H a = some (.ins CS dx (sF s tv)) ∧ TvP CL H s.t tv
def SlAt (H : Hp) (a : Addr) (s : Stp) : Prop := ∃ cv, H a = some (.tup [.str s.w, oV s.o, oV s.n, kV s.k, cv, .non]) ∧ TvL H s.t cv
def PtOk (l : List Nat) : Prop := (l.all isS) = true ∧ l.length ≤ 6
def WdOk (l : List Nat) : Prop := PtOk l ∧ 1 ≤ l.length
def OkTo (t : Option Tst) : Prop := ∀ t', t = some t' → OkT t'
inductive OkS : Stp → Prop
  | ex {w : Str} {o n : List Nat} {k : Bool} {t : Option Tst} (hw : w = "replace" ∨ w = "first" ∨ w = "once") (ho : WdOk o) (hn : PtOk n) (ht : t ≠ none → w = "replace" ∧ k = false ∧ 10 ∉ o ∧ 10 ∉ n) (hk : k = true → w = "replace") (hT : OkTo t) : OkS ⟨w, some o, some n, k, t⟩
  | dk {w : Str} {t : Tst} (hw : w = "drop" ∨ w = "keep") (ht : OkT t) : OkS ⟨w, none, none, false, some t⟩
  | pt {w : Str} {n : List Nat} {t : Tst} (hw : w = "ahead" ∨ w = "behind" ∨ w = "above" ∨ w = "below") (hn : PtOk n) (h10 : 10 ∉ n) (h1 : w = "ahead" ∨ w = "behind" → n ≠ []) (ht : OkT t) : OkS ⟨w, none, some n, false, some t⟩
  | sp {o : List Nat} {t : Tst} (ho : WdOk o) (h10 : 10 ∉ o) (ht : OkT t) : OkS ⟨"strip", some o, none, false, some t⟩
theorem OkS.tst {s : Stp} (h : OkS s) : OkTo s.t := by
  cases h with
  | ex _ _ _ _ _ hT => exact hT
  | dk _ ht => intro t' e; cases e; exact ht
  | pt _ _ _ _ ht => intro t' e; cases e; exact ht
  | sp _ _ ht => intro t' e; cases e; exact ht
def grS (s : Stp) : Nat :=
  if s.w ∈ (["replace", "first", "once"] : List Str) then max 1 (s.n.getD []).length
  else if s.w ∈ (["ahead", "behind"] : List Str) then 1 + (s.n.getD []).length
  else if s.w ∈ (["above", "below"] : List Str) then 2 + (s.n.getD []).length
  else 1
theorem grS_le {s : Stp} (h : OkS s) : grS s ≤ 8 ∧ 1 ≤ grS s := by
  have l : (s.n.getD []).length ≤ 6 := by
    cases h with
    | ex _ _ hn => exact hn.2
    | dk => exact Nat.zero_le _
    | pt _ hn => exact hn.2
    | sp => exact Nat.zero_le _
  unfold grS
  split
  · omega
  · split
    · omega
    · split <;> omega
/-- items of a list of steps: such, or what is no step -/
inductive It
  | st (s : Stp)
  | no (v : V)
def NoV (v : V) : Prop := v = .non ∨ v = .str "drop lines all" ∨ v = .int 3
def ItOk : It → Prop
  | .st s => OkS s
  | .no v => NoV v
def ItL (H : Hp) (v : V) : It → Prop
  | .st s => ∃ a, v = .ref a ∧ SlAt H a s
  | .no u => v = u
def ItP (CL CS : Addr) (H : Hp) (v : V) : It → Prop
  | .st s => ∃ a, v = .ref a ∧ StAt CL CS H a s
  | .no u => v = u
theorem TvP.sm {CL : Addr} {H H' : Hp} {t : Option Tst} {v : V} (h : TvP CL H t v) (s : Same H H') : TvP CL H' t v := by
  cases t with
  | none => exact h
  | some t => obtain ⟨c, e, z⟩ := h; exact ⟨c, e, z.sm s⟩
theorem TvL.tk {H H' : Hp} {t : Option Tst} {v : V} (h : TvL H t v) (s : Tk H H') : TvL H' t v := by
  cases t with
  | none => exact h
  | some t => obtain ⟨c, e, z⟩ := h; exact ⟨c, e, z.tk s⟩
theorem StAt.sm {CL CS : Addr} {H H' : Hp} {a : Addr} {s : Stp} (h : StAt CL CS H a s) (m : Same H H') : StAt CL CS H' a s := let ⟨dx, tv, e, z⟩ := h; ⟨dx, tv, m _ _ e, z.sm m⟩
theorem SlAt.tk {H H' : Hp} {a : Addr} {s : Stp} (h : SlAt H a s) (m : Tk H H') : SlAt H' a s := let ⟨cv, e, z⟩ := h; ⟨cv, m _ _ e, z.tk m⟩
theorem ItL.tk {H H' : Hp} {v : V} {i : It} (h : ItL H v i) (m : Tk H H') : ItL H' v i := by
  cases i with
  | st s => obtain ⟨a, e, z⟩ := h; exact ⟨a, e, z.tk m⟩
  | no u => exact h
theorem ItP.sm {CL CS : Addr} {H H' : Hp} {v : V} {i : It} (h : ItP CL CS H v i) (m : Same H H') : ItP CL CS H' v i := by
  cases i with
  | st s => obtain ⟨a, e, z⟩ := h; exact ⟨a, e, z.sm m⟩
  | no u => exact h
/-! ### what is due -/
inductive Du
  | steps (n : Nat)
  | step (k : Nat)
  | word
  | tongue (k : Nat)
  | growth (g : Nat)
  | fine
def It.isNo : It → Bool
  | .st _ => false
  | .no _ => true
def It.asks : It → Bool
  | .st s => s.k
  | .no _ => false
def It.gr : It → Nat
  | .st s => grS s
  | .no _ => 1
/-- the first place where f holds -/
def fstAt (f : It → Bool) : Nat → List It → Option Nat
  | _, [] => none
  | k, i :: r => if f i = true then some k else fstAt f (k + 1) r
def grA (its : List It) : Nat := its.foldl (fun g i => g * i.gr) 1
inductive Rd
  | no
  | tongue
  | bad
/-- what check_steps says -/
def dueC (its : List It) (r : Rd) : Du :=
  if 6 < its.length then .steps its.length
  else match fstAt It.isNo 0 its with
    | some k => .step k
    | none => match r with
      | .bad => .word
      | .tongue => .fine
      | .no => match fstAt It.asks 0 its with
        | some k => .tongue k
        | none => .fine
def dueF (its : List It) (r : Rd) : Du := match dueC its r with
  | .fine => if 36 < grA its then .growth (grA its) else .fine
  | d => d
def duD : Du → PyData
  | .steps n => .tuple [.str "steps", .int (n : Int), .int 6]
  | .step k => .tuple [.str "step", .int (k : Int), .bool true]
  | .word => .tuple [.str "word", .str "tongue", .bool true]
  | .tongue k => .tuple [.str "tongue", .int (k : Int), .bool true]
  | .growth g => .tuple [.str "growth", .int (g : Int), .int 36]
  | .fine => .none
def RdAt (CG : Addr) (H : Hp) (v : V) : Rd → Prop
  | .no => v = .non
  | .tongue => ∃ a t, v = .ref a ∧ TgAt CG H a t
  | .bad => v = .str "quote" ∨ v = .int 3 ∨ ∃ a xs, v = .ref a ∧ H a = some (.lst xs)
def DuEr (CS CM CN CW : Addr) (H : Hp) (d : Du) (E : XK) : Prop := ∀ (x : Addr) (H' : Hp), Same H H' → match d with
  | .steps n => H' x = some (.xd [("limit", .int 6), ("many", .int (n : Int)), ("what", .str "steps")]) → E (.ref CM) (some x) H'
  | .step k => H' x = some (.xd [("number", .int (k : Int))]) → E (.ref CS) (some x) H'
  | .word => H' x = some (.xd [("what", .str "tongue")]) → E (.ref CW) (some x) H'
  | .tongue k => H' x = some (.xd [("number", .int (k : Int))]) → E (.ref CN) (some x) H'
  | .growth g => H' x = some (.xd [("limit", .int 36), ("many", .int (g : Int)), ("what", .str "growth")]) → E (.ref CM) (some x) H'
  | .fine => True
/-! ### the classes -/
structure CaS (K : PySem.W.Frag) (CS : Addr) : Prop where
  i : C8.InsC K CS
  a1 : NoAttr K CS "word"
  a2 : NoAttr K CS "old"
  a3 : NoAttr K CS "new"
  a4 : NoAttr K CS "kind"
  a5 : NoAttr K CS "test"
  a6 : NoAttr K CS "guard"
  a7 : NoAttr K CS "asks_kinds"
structure CaC (K : PySem.W.Frag) (CC : Addr) : Prop where
  i : C8.InsC K CC
  a1 : NoAttr K CC "steps"
  a2 : NoAttr K CC "tongue"
  a3 : NoAttr K CC "growth"
/-! ### calls of Step with keywords -/
def nn5 : List V := [.non, .non, .non, .non, .non]
def gv_old_new_kind_test (vs zs : List V) : List V := vs ++ zs ++ nn5.drop 4
def gv_old_new (vs zs : List V) : List V := vs ++ zs ++ nn5.drop 2
def gv_test (vs zs : List V) : List V := vs ++ nn5.take 3 ++ zs ++ nn5.drop 4
def gv_new_test (vs zs : List V) : List V := vs ++ nn5.take 1 ++ zs.take 1 ++ (nn5.drop 2).take 1 ++ zs.drop 1 ++ nn5.drop 4
def gv_old_test (vs zs : List V) : List V := vs ++ zs.take 1 ++ (nn5.drop 1).take 2 ++ zs.drop 1 ++ nn5.drop 4
/-! ### the promises -/
def sp_isKind (K : PySem.W.Frag) : Sp := fun vs H Q _ => vs = [.str "code"] ∧ Q (.bl true) H
def sp_isWord (K : PySem.W.Frag) : Sp := fun vs H Q _ => ∃ l, vs = [.str (S l)] ∧ WdOk l ∧ ∀ H', Same H H' → Q (.bl true) H'
def sp_checkExchange : Sp := fun vs H Q _ => ∃ o n, vs = [.str (S o), .str (S n)] ∧ WdOk o ∧ PtOk n ∧ ∀ H', Same H H' → Q .non H'
def sp_checkTest (CL : Addr) : Sp := fun vs H Q _ => ∃ c t, vs = [.ref c] ∧ TsAt CL H c t ∧ Q .non H
def sp_Step_init (CS : Addr) : Sp := fun vs H Q _ => ∃ (a dx : Addr) (w : Str) (o n t : V) (k : Bool), vs = [.ref a, .str w, o, n, kV k, t, .non] ∧ H a = some (.ins CS dx []) ∧ Q .non (upd H a (.ins CS dx [("word", .str w), ("old", o), ("new", n), ("kind", kV k), ("test", t), ("guard", .non), ("asks_kinds", .bl k)]))
def stPost (CL CS : Addr) (H : Hp) (s : Stp) (Q : VK) : Prop := ∀ (H' : Hp) (a : Addr), Same H H' → StAt CL CS H' a s → Q (.ref a) H'
def sp_replaceStep (CL CS : Addr) : Sp := fun vs H Q _ => ∃ (o n : List Nat) (k : Bool) (t : Option Tst) (tv : V), vs = [.str (S o), .str (S n), kV k, tv] ∧ OkS ⟨"replace", some o, some n, k, t⟩ ∧ TvP CL H t tv ∧ stPost CL CS H ⟨"replace", some o, some n, k, t⟩ Q
def sp_firstStep (CL CS : Addr) : Sp := fun vs H Q _ => ∃ (o n : List Nat), vs = [.str (S o), .str (S n)] ∧ WdOk o ∧ PtOk n ∧ stPost CL CS H ⟨"first", some o, some n, false, none⟩ Q
def sp_onceStep (CL CS : Addr) : Sp := fun vs H Q _ => ∃ (o n : List Nat), vs = [.str (S o), .str (S n)] ∧ WdOk o ∧ PtOk n ∧ stPost CL CS H ⟨"once", some o, some n, false, none⟩ Q
def sp_dropStep (CL CS : Addr) : Sp := fun vs H Q _ => ∃ (c : Addr) (t : Tst), vs = [.ref c] ∧ TsAt CL H c t ∧ stPost CL CS H ⟨"drop", none, none, false, some t⟩ Q
def sp_keepStep (CL CS : Addr) : Sp := fun vs H Q _ => ∃ (c : Addr) (t : Tst), vs = [.ref c] ∧ TsAt CL H c t ∧ stPost CL CS H ⟨"keep", none, none, false, some t⟩ Q
def sp_putStep (CL CS : Addr) : Sp := fun vs H Q _ => ∃ (w : Str) (n : List Nat) (c : Addr) (t : Tst), vs = [.str w, .str (S n), .ref c] ∧ OkS ⟨w, none, some n, false, some t⟩ ∧ TsAt CL H c t ∧ stPost CL CS H ⟨w, none, some n, false, some t⟩ Q
def sp_stripStep (CL CS : Addr) : Sp := fun vs H Q _ => ∃ (o : List Nat) (c : Addr) (t : Tst), vs = [.str (S o), .ref c] ∧ WdOk o ∧ 10 ∉ o ∧ TsAt CL H c t ∧ stPost CL CS H ⟨"strip", some o, none, false, some t⟩ Q
def sp_growthOf (CS : Addr) : Sp := fun vs H Q _ => ∃ (a dx : Addr) (s : Stp) (tv : V), vs = [.ref a] ∧ H a = some (.ins CS dx (sF s tv)) ∧ OkS s ∧ Q (.int (grS s : Int)) H
def ItsP (CL CS : Addr) (H : Hp) (vs : List V) (its : List It) : Prop := vs.length = its.length ∧ ∀ (j : Nat) (v : V) (i : It), vs[j]? = some v → its[j]? = some i → ItP CL CS H v i ∧ ItOk i
def ItsL (H : Hp) (vs : List V) (its : List It) : Prop := vs.length = its.length ∧ ∀ (j : Nat) (v : V) (i : It), vs[j]? = some v → its[j]? = some i → ItL H v i ∧ ItOk i
def LsT (K : PySem.W.Frag) (H : Hp) (L : Addr) (vs : List V) : Prop := H L = some (.lst vs) ∨ H L = some (.tup vs)
def sp_checkSteps (K : PySem.W.Frag) (CL CS CG CB CM CN CW : Addr) : Sp := fun vs H Q E => ∃ (L : Addr) (tv : V) (xs : List V) (its : List It) (r : Rd), vs = [.ref L, tv] ∧ LsT K H L xs ∧ ItsP CL CS H xs its ∧ its.length ≤ 20 ∧ RdAt CG H tv r ∧
  (dueC its r = .fine → ∀ H', Same H H' → Q .non H') ∧ (dueC its r ≠ .fine → DuEr CB CM CN CW H (dueC its r) E)
def scF (st : Addr) (tv : V) (g : Nat) : List (Str × V) := [("steps", .ref st), ("tongue", tv), ("growth", .int (g : Int))]
def ScAt (CC : Addr) (H : Hp) (a : Addr) (xs : List V) (tv : V) (g : Nat) : Prop := ∃ dx st, H a = some (.ins CC dx (scF st tv g)) ∧ H st = some (.tup xs)
def sp_Script_init (K : PySem.W.Frag) (CL CS CG CC CB CM CN CW : Addr) : Sp := fun vs H Q E => ∃ (a dx L : Addr) (tv : V) (xs : List V) (its : List It) (r : Rd), vs = [.ref a, .ref L, tv] ∧ H a = some (.ins CC dx []) ∧ LsT K H L xs ∧ ItsP CL CS H xs its ∧ its.length ≤ 20 ∧ RdAt CG H tv r ∧
  (dueF its r = .fine → ∀ H' : Hp, (∀ b o, b ≠ a → H b = some o → H' b = some o) → ScAt CC H' a xs tv (grA its) → Q .non H') ∧
  (dueF its r ≠ .fine → ∀ H1 : Hp, (∀ b o, b ≠ a → H b = some o → H1 b = some o) → DuEr CB CM CN CW H1 (dueF its r) E)
/-- what == says of the tongues of two scripts -/
def tgEq (CG : Addr) (H : Hp) (v u : V) (r : Bool) : Prop := (v = .non ∧ u = .non ∧ r = true) ∨ (∃ a b t t', v = .ref a ∧ u = .ref b ∧ TgAt CG H a t ∧ TgAt CG H b t' ∧ r = decide (t = t')) ∨ ((∃ a t, v = .ref a ∧ TgAt CG H a t) ∧ u = .non ∧ r = false)
def StsP (CL CS : Addr) (H : Hp) (xs : List V) : Prop := ∀ v ∈ xs, ∃ a s, v = .ref a ∧ StAt CL CS H a s ∧ OkS s
def EqC (CL CS CG CC : Addr) (a b : Addr) (r : Bool) (H : Hp) : Prop := ∃ xs ys v u g h, ScAt CC H a xs v g ∧ ScAt CC H b ys u h ∧ StsP CL CS H xs ∧ StsP CL CS H ys ∧ ((xs = ys ∧ tgEq CG H v u r) ∨ (xs.length ≠ ys.length ∧ r = false))
def StR (CL CS : Addr) (a b : Addr) (H : Hp) : Prop := ∃ s t, StAt CL CS H a s ∧ StAt CL CS H b t ∧ OkS s ∧ OkS t
/-! ### the law's promises -/
def sp_lawStep : Sp := fun vs H Q _ => ∃ (p c : Addr) (m : Nat) (sg : List Nat), vs = [.ref p, .str (S sg)] ∧ PenAt H p c m ∧ m < 400000 ∧ 1 ≤ sg.length ∧ sg.length ≤ 3 ∧ sgn sg ∧ ∀ (H' : Hp) (a : Addr) (s : Stp), Ks H H' → PenAt H' p c (m + 100) → SlAt H' a s → OkS s → Q (.ref a) H'
def sp_lawGrowth : Sp := fun vs H Q _ => ∃ (L : Addr) (xs : List V) (its : List It), vs = [.ref L] ∧ H L = some (.lst xs) ∧ ItsL H xs its ∧ its.length ≤ 8 ∧ (∀ i ∈ its, i.isNo = false) ∧ ∀ H' : Hp, Same H H' → Q (.int (grA its : Int)) H'
def sp_stepMade (CL CS : Addr) : Sp := fun vs H Q _ => ∃ (a : Addr) (s : Stp), vs = [.ref a] ∧ SlAt H a s ∧ OkS s ∧ stPost CL CS H s Q
def sp_madeOrNot (CL CS : Addr) : Sp := fun vs H Q _ => ∃ (v : V) (i : It), vs = [v] ∧ ItL H v i ∧ ItOk i ∧ ∀ (H' : Hp) (u : V), Same H H' → ItP CL CS H' u i → Q u H'
def sp_drawnSteps : Sp := fun vs H Q _ => ∃ (p c : Addr) (m : Nat) (sg : List Nat), vs = [.ref p, .str (S sg)] ∧ PenAt H p c m ∧ m < 300000 ∧ 1 ≤ sg.length ∧ sg.length ≤ 3 ∧ sgn sg ∧ ∀ (H' : Hp) (L : Addr) (xs : List V) (its : List It), Ks H H' → PenAt H' p c (m + 2000) → H' L = some (.lst xs) → ItsL H' xs its → its.length ≤ 8 → Q (.ref L) H'
def sp_due (K : PySem.W.Frag) : Sp := fun vs H Q _ => ∃ (L : Addr) (tv : V) (xs : List V) (its : List It) (CG : Addr) (r : Rd), vs = [.ref L, tv] ∧ H L = some (.lst xs) ∧ ItsL H xs its ∧ its.length ≤ 8 ∧ RdAt CG H tv r ∧ r ≠ .tongue ∧ ∀ (H' : Hp) (v : V), Same H H' → Dp K H' v (duD (dueF its r)) → Q v H'
def sp_refused (K : PySem.W.Frag) (CL CS CG CC : Addr) : Sp := fun vs H Q _ => ∃ (L : Addr) (tv : V) (xs : List V) (its : List It) (r : Rd), vs = [.ref L, tv] ∧ LsT K H L xs ∧ ItsP CL CS H xs its ∧ its.length ≤ 20 ∧ RdAt CG H tv r ∧ ∀ (H' : Hp) (v : V), Same H H' → Dp K H' v (duD (dueF its r)) → Q v H'
def sp_areTonguesRight (P0 : Addr) : Sp := fun vs H Q _ => ∃ (p c : Addr) (m : Nat), vs = [.ref p] ∧ PenAt H p c m ∧ m < 900000 ∧ LamX.Tabs (T0 P0) H ∧ ∀ H', Q (.bl true) H'
theorem st_made {CL CS x dx : Addr} {H : Hp} {s : Stp} {tv : V} {Q : VK} (hx : H x = none) (hdx : H dx = none) (ne : dx ≠ x) (ht : TvP CL H s.t tv) (q : stPost CL CS H s Q) : Q (.ref x) (upd (upd (upd H dx (.own x)) x (.ins CS dx [])) x (.ins CS dx (sF s tv))) := by
  rw [upd_upd]
  have sm := same_new (same1 hdx (.own x)) (by rw [upd_ne ne.symm]; exact hx) (.ins CS dx (sF s tv))
  exact q _ x sm ⟨dx, tv, upd_same, ht.sm sm⟩
theorem stPost.at {CL CS : Addr} {H H1 : Hp} {s : Stp} {Q : VK} (q : stPost CL CS H s Q) (m : Same H H1) : stPost CL CS H1 s Q := fun H' a sm st => q H' a (fun b o z => sm _ _ (m _ _ z)) st
theorem grN {s : Stp} (h : OkS s) (hm : s.w ∈ (["replace", "first", "once"] : List Str) ∨ s.w ∈ (["ahead", "behind"] : List Str) ∨ s.w ∈ (["above", "below"] : List Str)) : ∃ n, s.n = some n ∧ n.length ≤ 6 := by
  cases h with
  | ex _ _ hn => exact ⟨_, rfl, hn.2⟩
  | pt _ hn => exact ⟨_, rfl, hn.2⟩
  | @dk w t hw ht =>
    have hm : w ∈ (["replace", "first", "once"] : List Str) ∨ w ∈ (["ahead", "behind"] : List Str) ∨ w ∈ (["above", "below"] : List Str) := hm
    rcases hw with rfl | rfl
    · exact absurd hm (by decide +kernel)
    · exact absurd hm (by decide +kernel)
  | sp =>
    have hm : ("strip" : Str) ∈ (["replace", "first", "once"] : List Str) ∨ ("strip" : Str) ∈ (["ahead", "behind"] : List Str) ∨ ("strip" : Str) ∈ (["above", "below"] : List Str) := hm
    exact absurd hm (by decide +kernel)
theorem lw_ok {l : List Nat} (h : PtOk l) (h10 : 10 ∉ l) : lw l = true := by
  unfold lw
  rw [h.1, decide_eq_true h.2, decide_eq_false h10]; rfl
theorem S_nil {n : List Nat} : decide (V.str (S n) = V.str (Str.ofString "")) = decide (n = []) := by
  refine decide_eq_decide.mpr ⟨fun z => ?_, fun z => by rw [z]; rfl⟩
  have : Str.ofString "" = S [] := by decide +kernel
  rw [this] at z
  exact S_inj (V.str.inj z)
theorem nlIn (l : List Nat) : decide (10 ∈ (S l).cps.toList) = decide (10 ∈ l) := by rw [show (S l).cps.toList = l from TL.tl_mk l]
theorem fst_none {f : It → Bool} : ∀ {l : List It} {k : Nat}, (∀ i ∈ l, f i = false) → fstAt f k l = none
  | [], _, _ => rfl
  | i :: l, k, h => by
    unfold fstAt
    rw [if_neg (by rw [h i (.head _)]; exact Bool.false_ne_true)]
    exact fst_none fun x hx => h x (.tail _ hx)
theorem fst_hit {f : It → Bool} : ∀ {l : List It} {k i : Nat} {x : It}, l[i]? = some x → f x = true → (∀ y ∈ l.take i, f y = false) → fstAt f k l = some (k + i)
  | [], _, _, _, h, _, _ => nomatch h
  | y :: l, k, 0, x, h, hf, _ => by
    cases h
    unfold fstAt
    rw [if_pos hf]; rfl
  | y :: l, k, i + 1, x, h, hf, hn => by
    unfold fstAt
    rw [if_neg (by rw [hn y (.head _)]; exact Bool.false_ne_true), fst_hit (k := k + 1) (i := i) (l := l) h hf fun z hz => hn z (.tail _ hz)]
    congr 1; omega
theorem take_f {f : It → Bool} {l : List It} {i : Nat} {x : It} (h : ∀ y ∈ l.take i, f y = false) (hx : l[i]? = some x) (hf : f x = false) : ∀ y ∈ l.take (i + 1), f y = false := fun y hy => by
  rw [List.take_add_one, hx] at hy
  rcases List.mem_append.mp hy with z | z
  · exact h y z
  · have : y = x := List.mem_singleton.mp z
    rw [this]; exact hf
theorem fst_all {f : It → Bool} : ∀ {l : List It} {k : Nat}, fstAt f k l = none → ∀ i ∈ l, f i = false
  | [], _, _, _, h => nomatch h
  | y :: l, k, h, i, hi => by
    unfold fstAt at h
    by_cases c : f y = true
    · rw [if_pos c] at h; cases h
    · rw [if_neg c] at h
      rcases List.mem_cons.mp hi with e | z
      · rw [e]; exact Bool.eq_false_iff.mpr c
      · exact fst_all h i z
theorem due_fine {its : List It} {r : Rd} (h : dueC its r = .fine) : its.length ≤ 6 ∧ ∀ i ∈ its, i.isNo = false := by
  unfold dueC at h
  by_cases c : 6 < its.length
  · rw [if_pos c] at h; cases h
  · rw [if_neg c] at h
    refine ⟨by omega, ?_⟩
    cases e : fstAt It.isNo 0 its with
    | none => exact fst_all e
    | some k => rw [e] at h; cases h
theorem grA_snoc (l : List It) (i : It) : grA (l ++ [i]) = grA l * i.gr := by unfold grA; rw [List.foldl_append]; rfl
theorem grA_leG : ∀ (l : List It) (g : Nat), (∀ i ∈ l, i.gr ≤ 8) → l.foldl (fun g i => g * i.gr) g ≤ g * 8 ^ l.length
  | [], g, _ => by show g ≤ g * 1; omega
  | i :: l, g, h => by
    have a := grA_leG l (g * i.gr) fun x hx => h x (.tail _ hx)
    have b := h i (.head _)
    show l.foldl (fun g i => g * i.gr) (g * i.gr) ≤ g * 8 ^ (l.length + 1)
    rw [Nat.pow_succ]
    refine Nat.le_trans a ?_
    rw [Nat.mul_assoc]
    refine Nat.mul_le_mul (Nat.le_refl g) ?_
    rw [Nat.mul_comm]
    exact Nat.mul_le_mul (Nat.le_refl _) b
theorem grA_le {l : List It} (h : ∀ i ∈ l, i.gr ≤ 8) : grA l ≤ 8 ^ l.length := by
  have := grA_leG l 1 h
  rw [Nat.one_mul] at this
  exact this
theorem gr_le {i : It} (h : ItOk i) : i.gr ≤ 8 := by
  cases i with
  | st s => exact (grS_le h).1
  | no v => exact (by decide : 1 ≤ 8)

end
end Vf

set_option maxRecDepth 100000
set_option maxHeartbeats 4000000
namespace Vf
open PySem PySem.Spec PyProof.Rows L2 SX
section
variable {P : Program} {w : World} {K : PySem.W.Frag} {mg : Str → Option Value} {base : Heap}
variable {P : Program} {w : World} {K : PySem.W.Frag} {mg : Str → Option Value} {base : Heap}
theorem mk_script {CL CS CG CC CB CM CN CW : Addr} {H1 : Hp} {L : Addr} {tv : V} {xs : List V} {its : List It} {r : Rd} {Q : VK} (hL : LsT K H1 L xs) (hi : ItsP CL CS H1 xs its) (hl : its.length ≤ 20) (hr0 : RdAt CG H1 tv r) (hf : dueF its r = .fine)
    {x dx : Addr} (hx : H1 x = none) (hdx : H1 dx = none) (ne : dx ≠ x) (k : ∀ (H' : Hp), Same H1 H' → ScAt CC H' x xs tv (grA its) → Q .non H') {E : XK} : sp_Script_init K CL CS CG CC CB CM CN CW [.ref x, .ref L, tv] (upd (upd H1 dx (.own x)) x (.ins CC dx [])) Q E := by
  have sx := same_new (same1 hdx (.own x)) (by rw [upd_ne ne.symm]; exact hx) (.ins CC dx [])
  have hr1 : RdAt CG (upd (upd H1 dx (.own x)) x (.ins CC dx [])) tv r := by
    cases r with
    | no => exact hr0
    | tongue => obtain ⟨a, t, e, d1, e1, e2, e3, z1, z2⟩ := hr0; exact ⟨a, t, e, d1, e1, e2, e3, sx _ _ z1, sx _ _ z2⟩
    | bad => exact hr0.imp id (Or.imp id fun ⟨a, zs, e, z⟩ => ⟨a, zs, e, sx _ _ z⟩)
  refine ⟨x, dx, L, tv, xs, its, r, rfl, upd_same, hL.imp (fun z => sx _ _ z) (fun z => sx _ _ z), ⟨hi.1, fun j v i a b => ⟨(hi.2 j v i a b).1.sm sx, (hi.2 j v i a b).2⟩⟩, hl, hr1, fun e H2 k1 sc => ?_, fun e => absurd hf e⟩
  exact k H2 (fun b o z => k1 b o (ne_of_none z hx) (sx _ _ z)) sc
def TxOk (t : Str) : Prop := t.length ≤ 100000 ∧ LnOk (lnsOf t) ∧ fw (lnsOf t) = none
theorem mk_tongue {CG CT P0 : Addr} {H1 : Hp} {t : Str} {Q : VK} (ht : TxOk t) (tb : LamX.Tabs (T0 P0) H1) {x dx : Addr} (hx : H1 x = none) (hdx : H1 dx = none) (ne : dx ≠ x) (k : ∀ (H' : Hp), LamX.ExtN H1 H' → LamX.Tabs (T0 P0) H' → TgAt CG H' x t → Q .non H') {E : XK} :
    sp_Tongue_init CG CT P0 [.ref x, .str t] (upd (upd H1 dx (.own x)) x (.ins CG dx [])) Q E := by
  have sx := same_new (same1 hdx (.own x)) (by rw [upd_ne ne.symm]; exact hx) (.ins CG dx [])
  refine ⟨x, dx, t, rfl, upd_same, ht.1, ht.2.1, tb.ext sx, fun _ H2 x2 tb2 tg => k H2 (fun b o z n => x2 b o (ne_of_none z hx) (sx _ _ z) n) tb2 tg, fun p ep => ?_⟩
  rw [ht.2.2] at ep; cases ep
theorem TgAt.ex {CG a : Addr} {t : Str} {H H' : Hp} (h : TgAt CG H a t) (e : LamX.ExtN H H') : TgAt CG H' a t := let ⟨dx, rt, wi, rd, z1, z2⟩ := h; ⟨dx, rt, wi, rd, e _ _ z1 (fun _ z => nomatch z), e _ _ z2 (fun _ z => nomatch z)⟩
theorem ScAt.ex {CC a : Addr} {xs : List V} {tv : V} {g : Nat} {H H' : Hp} (h : ScAt CC H a xs tv g) (e : LamX.ExtN H H') : ScAt CC H' a xs tv g := let ⟨dx, st, z1, z2⟩ := h; ⟨dx, st, e _ _ z1 (fun _ z => nomatch z), e _ _ z2 (fun _ z => nomatch z)⟩
theorem sc_eqI {CL CS CG CC : Addr} {n : Bool} {a b : Addr} {H : Hp} {xs ys : List V} {v u : V} {g h : Nat} {r : Bool} {Q : VK} (h1 : ScAt CC H a xs v g) (h2 : ScAt CC H b ys u h) (p1 : StsP CL CS H xs) (p2 : StsP CL CS H ys)
    (hc : (xs = ys ∧ tgEq CG H v u r) ∨ (xs.length ≠ ys.length ∧ r = false)) (k : ∀ H', Same H H' → Q (.bl (r != n)) H') : rEqI CC n (EqC CL CS CG CC) (.ref a) (.ref b) H Q := by
  obtain ⟨dx, st, z1, z2⟩ := id h1
  obtain ⟨dy, su, y1, y2⟩ := id h2
  exact ⟨a, b, r, dx, dy, _, _, rfl, rfl, z1, y1, ⟨xs, ys, v, u, g, h, h1, h2, p1, p2, hc⟩, k⟩
theorem tg_eqI {CG : Addr} {n : Bool} {a b : Addr} {H : Hp} {t u : Str} {Q : VK} (h1 : TgAt CG H a t) (h2 : TgAt CG H b u) (k : ∀ H', Same H H' → Q (.bl (decide (t = u) != n)) H') : rEqI CG n (EqG CG) (.ref a) (.ref b) H Q := by
  obtain ⟨dx, rt, wi, rd, z1, z2⟩ := id h1
  obtain ⟨dy, rt', wi', rd', y1, y2⟩ := id h2
  exact ⟨a, b, _, dx, dy, _, _, rfl, rfl, z1, y1, ⟨t, u, h1, h2, rfl⟩, k⟩
/-- steps without tests: they outlive the tables -/
def StN (CS : Addr) (H : Hp) (a : Addr) (s : Stp) : Prop := ∃ dx, H a = some (.ins CS dx (sF s .non)) ∧ s.t = none ∧ OkS s
theorem StN.of {CL CS a : Addr} {H : Hp} {s : Stp} (h : StAt CL CS H a s) (e : s.t = none) (o : OkS s) : StN CS H a s := by
  obtain ⟨dx, tv, z, y⟩ := h
  rw [e] at y
  obtain rfl : tv = .non := y
  exact ⟨dx, z, e, o⟩
theorem StN.at {CL CS a : Addr} {H : Hp} {s : Stp} (h : StN CS H a s) : StAt CL CS H a s := by
  obtain ⟨dx, z, e, o⟩ := h
  exact ⟨dx, .non, z, by rw [e]; exact rfl⟩
theorem StN.ex {CS a : Addr} {H H' : Hp} {s : Stp} (h : StN CS H a s) (e : LamX.ExtN H H') : StN CS H' a s := let ⟨dx, z, y⟩ := h; ⟨dx, e _ _ z (fun _ z => nomatch z), y⟩
inductive AllN (CS : Addr) (H : Hp) : List V → List Stp → Prop
  | nil : AllN CS H [] []
  | cons {a : Addr} {s : Stp} {vs : List V} {ss : List Stp} (h : StN CS H a s) (r : AllN CS H vs ss) : AllN CS H (.ref a :: vs) (s :: ss)
theorem AllN.ex {CS : Addr} {H H' : Hp} {vs : List V} {ss : List Stp} (h : AllN CS H vs ss) (e : LamX.ExtN H H') : AllN CS H' vs ss := by
  induction h with
  | nil => exact .nil
  | cons h r ih => exact .cons (h.ex e) ih
theorem AllN.its {CL CS : Addr} {H : Hp} {vs : List V} {ss : List Stp} (h : AllN CS H vs ss) : ItsP CL CS H vs (ss.map It.st) := by
  induction h with
  | nil => exact ⟨rfl, fun j v i a => nomatch a⟩
  | cons h r ih =>
    refine ⟨congrArg (· + 1) ih.1, fun j v i a b => ?_⟩
    cases j with
    | zero => cases a; cases b; exact ⟨⟨_, rfl, h.at⟩, h.choose_spec.2.2⟩
    | succ j => exact ih.2 j v i a b
theorem AllN.sts {CL CS : Addr} {H : Hp} {vs : List V} {ss : List Stp} (h : AllN CS H vs ss) : StsP CL CS H vs := by
  induction h with
  | nil => exact fun v z => nomatch z
  | cons h r ih => exact fun v z => (List.mem_cons.mp z).elim (fun e => ⟨_, _, e, h.at, h.choose_spec.2.2⟩) (ih v)
theorem rdT {CG g : Addr} {t : Str} {H : Hp} (h : TgAt CG H g t) : RdAt CG H (.ref g) .tongue := ⟨g, t, rfl, h⟩
theorem rdN {CG : Addr} {H : Hp} : RdAt CG H .non .no := rfl
theorem sl1 {K : PySem.W.Frag} {H : Hp} {a : Addr} {xs : List V} {R : VK} (h : H a = some (.lst xs)) (q : ∀ b H', Same H H' → H' b = some (.lst (xs.drop 1)) → R (.ref b) H') : rSlL K (.ref a) (some 1) none H R := by
  refine ⟨a, xs, rfl, SqL.of h, fun p hp => ?_⟩
  rw [show (1 : Int) = ((1 : Nat) : Int) from rfl, cut_from]
  exact q p _ (same1 hp _) upd_same
theorem keepU {H : Hp} {L b : Addr} {xs ys : List V} {o : HO} (hL : H L = some (.lst xs)) (h : H b = some o) (n : ∀ zs, o ≠ .lst zs) : upd H L (.lst ys) b = some o := by
  rw [upd_ne (by rintro rfl; rw [h] at hL; exact n _ (Option.some.inj hL))]; exact h
theorem TgAt.up {CG a L : Addr} {t : Str} {H : Hp} {xs ys : List V} (h : TgAt CG H a t) (hL : H L = some (.lst xs)) : TgAt CG (upd H L (.lst ys)) a t := let ⟨dx, rt, wi, rd, z1, z2⟩ := h; ⟨dx, rt, wi, rd, keepU hL z1 (fun _ z => nomatch z), keepU hL z2 (fun _ z => nomatch z)⟩
theorem ScAt.up {CC a L : Addr} {ws : List V} {tv : V} {g : Nat} {H : Hp} {xs ys : List V} (h : ScAt CC H a ws tv g) (hL : H L = some (.lst xs)) : ScAt CC (upd H L (.lst ys)) a ws tv g := let ⟨dx, st, z1, z2⟩ := h; ⟨dx, st, keepU hL z1 (fun _ z => nomatch z), keepU hL z2 (fun _ z => nomatch z)⟩
theorem StN.up {CS a L : Addr} {H : Hp} {s : Stp} {xs ys : List V} (h : StN CS H a s) (hL : H L = some (.lst xs)) : StN CS (upd H L (.lst ys)) a s := let ⟨dx, z, y⟩ := h; ⟨dx, keepU hL z (fun _ z => nomatch z), y⟩

end
end Vf

set_option maxRecDepth 100000
set_option maxHeartbeats 4000000
namespace Vf
open PySem PySem.Spec PyProof.Rows L2 SX
section
variable {P : Program} {w : World} {K : PySem.W.Frag} {mg : Str → Option Value} {base : Heap}
theorem st_mon {CL CS : Addr} : Mon (DIns CS (StR CL CS)) := mon_ins fun a b H H' e ⟨s, t, h1, h2, h3, h4⟩ => ⟨s, t, h1.sm e, h2.sm e, h3, h4⟩
def oD : Option (List Nat) → PyData
  | none => .none
  | some l => .str (S l)
theorem oD_dp {K : PySem.W.Frag} {H : Hp} (o : Option (List Nat)) : Dp K H (oV o) (oD o) := by
  cases o with
  | none => exact .non
  | some l => exact .str _
theorem oD_sh {o : Option (List Nat)} (h : ∀ l, o = some l → PtOk l) : SeqAt.shaped (oD o) = true := by
  cases o with
  | none => decide +kernel
  | some l =>
    have hl := (h l rfl).1
    show (PyData.strOk (S l) && decide (0 ≤ 64)) = true
    rw [strOk_S fun c hc => (show ∀ c ∈ signsL, c < 1000 by decide) c (of_decide_eq_true (List.all_eq_true.mp hl c hc))]; rfl
theorem OkS.on {s : Stp} (h : OkS s) : (∀ l, s.o = some l → PtOk l) ∧ ∀ l, s.n = some l → PtOk l := by
  cases h with
  | ex _ ho hn => exact ⟨fun l e => by cases e; exact ho.1, fun l e => by cases e; exact hn⟩
  | dk => exact ⟨fun l e => (nomatch e), fun l e => (nomatch e)⟩
  | pt _ hn => exact ⟨fun l e => (nomatch e), fun l e => by cases e; exact hn⟩
  | sp ho => exact ⟨fun l e => by cases e; exact ho.1, fun l e => (nomatch e)⟩
def kD (k : Bool) : PyData := if k = true then .str "code" else .none
theorem kD_dp {K : PySem.W.Frag} {H : Hp} (k : Bool) : Dp K H (kV k) (kD k) := by
  cases k with
  | true => exact .str _
  | false => exact .non
theorem kD_sh (k : Bool) : SeqAt.shaped (kD k) = true := by cases k <;> decide +kernel
theorem tv_two {CL : Addr} {H : Hp} {s : Stp} {tv : V} (h : TvP CL H s.t tv) (ok : OkS s) : (s.t = none ∧ tv = .non) ∨ ∃ t c dx fs, s.t = some t ∧ tv = .ref c ∧ H c = some (.ins CL dx fs) ∧ TsAt CL H c t ∧ OkT t := by
  have o := ok.tst
  generalize s.t = t at h o
  cases t with
  | none => exact .inl ⟨rfl, h⟩
  | some t =>
    obtain ⟨c, e, z⟩ := h
    have oo := o t rfl
    cases t with
    | pl p n => obtain ⟨dx, y⟩ := id z; exact .inr ⟨_, c, dx, _, rfl, e, y, z, oo⟩
    | rg p r n => obtain ⟨dx, b, d, y, _⟩ := id z; exact .inr ⟨_, c, dx, _, rfl, e, y, z, oo⟩
theorem ok_Step_eq {f : Addr} {fd : FuncData} {q : Str} {CR CD CG CL CS CC : Addr} (F : C8.Fun K "__eq__" q s_Step_eq f fd) (T : Tx K w mg) (G_Step : mg "Step" = some (.ref CS)) (EO_LineTest : EqO P w K mg base 2 CL (EqR CL)) (A0 : Ca K CR CD CG) (AL : CaL K CL) (AS : CaS K CS) (AC : CaC K CC) (FL : Fgn K CL) (FS : Fgn K CS) (FC : Fgn K CC) (FG : Fgn K CG) : FnOk P w K mg base C8.CX0 4 f fd ["self", "other"] (spEqAny (StR CL CS)) := by
  refine C8.fn0 F sc_Step_eq (fun vs H Q E h => ?_) (fun cdv A outer s H vs Q E hr h => ?_)
  · obtain ⟨a, b, rfl, _⟩ := h; rfl
  have hu := hu_of hr
  refine ⟨_, (pss_one (ps_ret (pe_and (pe_callB (C8.call_isC AS.i) (by rfl) T.z_isinstance (by decide +kernel) (pa_cons (pv 1) (pa_cons (pe_cls (G_Step) rfl) pa_nil))) (pe_and (pe_cmpR op_eq (pe_fld (pv 0) rfl) (pe_fld (pv 1) rfl) (nomark _)) (pe_and (pe_cmpR (op_eqD hr.units) (pe_fld (pv 0) rfl) (pe_fld (pv 1) rfl) (nomark _)) (pe_and (pe_cmpR (op_eqD hr.units) (pe_fld (pv 0) rfl) (pe_fld (pv 1) rfl) (nomark _)) (pe_and (pe_cmpR (op_eqD hr.units) (pe_fld (pv 0) rfl) (pe_fld (pv 1) rfl) (nomark _)) (pe_and (pe_cmpR (op_eqO EO_LineTest hr (by decide)) (pe_fld (pv 0) rfl) (pe_fld (pv 1) rfl) (nomark _)) (pe_one (pe_cmpR (op_eqD hr.units) (pe_fld (pv 0) rfl) (pe_fld (pv 1) rfl) (nomark _))))))))))), ?_⟩
  obtain ⟨a, b, rfl, ⟨s1, s2, ⟨dx, tv, ha, ht⟩, ⟨dy, tw, hb, hu'⟩, ok1, ok2⟩, q⟩ := h
  have cl := AS.i.cl
  refine ⟨_, rfl, b, dy, _, rfl, hb, true, rfl, ifT ?_⟩
  refine ⟨_, rfl, a, CS, dx, _, _, rfl, ha, cl, AS.a1, rfl, _, rfl, b, CS, dy, _, _, rfl, hb, cl, AS.a1, rfl, rfl, _, rfl, ?_⟩
  have qf : ∀ r, Q (.bl r) H := fun r => q H r fun _ _ z => z
  by_cases c1 : V.str s1.w = V.str s2.w
  rotate_left
  · exact ifn (decide_eq_false c1) (qf false)
  refine ify (decide_eq_true c1) ?_
  refine ⟨_, rfl, a, CS, dx, _, _, rfl, ha, cl, AS.a2, rfl, _, rfl, b, CS, dy, _, _, rfl, hb, cl, AS.a2, rfl, oD s1.o, oD s2.o, oD_dp _, oD_dp _, oD_sh ok1.on.1, oD_sh ok2.on.1, _, rfl, ?_⟩
  cases c2 : PyData.eqv (oD s1.o) (oD s2.o) with
  | false => exact ifF (qf false)
  | true =>
  refine ifT ?_
  refine ⟨_, rfl, a, CS, dx, _, _, rfl, ha, cl, AS.a3, rfl, _, rfl, b, CS, dy, _, _, rfl, hb, cl, AS.a3, rfl, oD s1.n, oD s2.n, oD_dp _, oD_dp _, oD_sh ok1.on.2, oD_sh ok2.on.2, _, rfl, ?_⟩
  cases c3 : PyData.eqv (oD s1.n) (oD s2.n) with
  | false => exact ifF (qf false)
  | true =>
  refine ifT ?_
  refine ⟨_, rfl, a, CS, dx, _, _, rfl, ha, cl, AS.a4, rfl, _, rfl, b, CS, dy, _, _, rfl, hb, cl, AS.a4, rfl, kD s1.k, kD s2.k, kD_dp _, kD_dp _, kD_sh _, kD_sh _, _, rfl, ?_⟩
  cases c4 : PyData.eqv (kD s1.k) (kD s2.k) with
  | false => exact ifF (qf false)
  | true =>
    refine ifT ?_
    refine ⟨_, rfl, a, CS, dx, _, _, rfl, ha, cl, AS.a5, rfl, _, rfl, b, CS, dy, _, _, rfl, hb, cl, AS.a5, rfl, ?_⟩
    rcases tv_two ht ok1 with ⟨e1, rfl⟩ | ⟨t1, x1, dx1, fs1, e1, rfl, z1, w1, o1⟩
    · rcases tv_two hu' ok2 with ⟨e2, rfl⟩ | ⟨t2, x2, dx2, fs2, e2, rfl, z2, w2, o2⟩
      · refine .inl ⟨rfl, _, rfl, ify (decide_eq_true rfl) ?_⟩
        exact ⟨_, rfl, a, CS, dx, _, _, rfl, ha, cl, AS.a6, rfl, _, rfl, b, CS, dy, _, _, rfl, hb, cl, AS.a6, rfl, .none, .none, .non, .non, by decide +kernel, by decide +kernel, qf _⟩
      · exact .inr (.inr (.inr ⟨x2, dx2, fs2, rfl, rfl, z2, FL.r, (FL.k "NoneType" (by simp)).1, _, rfl, ifF (qf false)⟩))
    · rcases tv_two hu' ok2 with ⟨e2, rfl⟩ | ⟨t2, x2, dx2, fs2, e2, rfl, z2, w2, o2⟩
      · exact .inr (.inr (.inl ⟨x1, dx1, fs1, _, rfl, z1, .base .non, (FL.k "NoneType" (by simp)).1, (FL.k "NoneType" (by simp)).2, _, rfl, ifF (qf false)⟩))
      · refine .inr (.inl ⟨x1, x2, eqT t1 t2, dx1, dx2, fs1, fs2, rfl, rfl, z1, z2, ⟨t1, t2, w1, w2, o1, o2, rfl⟩, fun H' s' => ⟨_, rfl, ?_⟩⟩)
        cases eqT t1 t2 with
        | false => exact ifF (q H' false s')
        | true =>
          refine ifT ?_
          exact ⟨_, rfl, a, CS, dx, _, _, rfl, s' _ _ ha, cl, AS.a6, rfl, _, rfl, b, CS, dy, _, _, rfl, s' _ _ hb, cl, AS.a6, rfl, .none, .none, .non, .non, by decide +kernel, by decide +kernel, q H' _ s'⟩

end
end Vf

set_option maxRecDepth 100000
set_option maxHeartbeats 4000000
namespace Vf
open PySem PySem.Spec PyProof.Rows L2 SX
section
variable {P : Program} {w : World} {K : PySem.W.Frag} {mg : Str → Option Value} {base : Heap}
theorem fst_filter {f : It → Bool} : ∀ (l : List It) (k : Nat), fstAt f k l = ((List.range l.length).filter fun j => f ((l[j]?).getD (.no .non))).head?.map (k + ·) := by
  intro l
  induction l with
  | nil => intro k; rfl
  | cons x l ih =>
    intro k
    rw [List.length_cons, List.range_succ_eq_map, List.filter_cons]
    unfold fstAt
    show (if f x = true then some k else fstAt f (k + 1) l) = _
    by_cases c : f x = true
    · rw [if_pos c]
      show some k = ((if f x = true then 0 :: _ else _) : List Nat).head?.map (k + ·)
      rw [if_pos c]; rfl
    · rw [if_neg c, ih]
      show _ = ((if f x = true then 0 :: _ else _) : List Nat).head?.map (k + ·)
      rw [if_neg c, List.filter_map, List.head?_map, Option.map_map]
      congr 1
      funext j
      show k + 1 + j = k + (j + 1)
      omega
def nums (f : It → Bool) (its : List It) (n : Nat) : List Nat := (List.range n).filter fun j => f ((its[j]?).getD (.no .non))
theorem nums_succ (f : It → Bool) (its : List It) {n : Nat} {x : It} (h : its[n]? = some x) : nums f its (n + 1) = nums f its n ++ (if f x = true then [n] else []) := by
  unfold nums
  rw [List.range_succ, List.filter_append]
  congr 1
  show List.filter (fun j => f ((its[j]?).getD (.no .non))) [n] = _
  rw [List.filter_cons, h]
  rfl
theorem nums_len (f : It → Bool) (its : List It) (n : Nat) : (nums f its n).length ≤ n := by
  have := List.length_filter_le (fun j => f ((its[j]?).getD (.no .non))) (List.range n)
  rw [List.length_range] at this
  exact this
theorem nums_fst (f : It → Bool) (its : List It) : fstAt f 0 its = (nums f its its.length).head? := by
  rw [fst_filter]
  unfold nums
  cases h : ((List.range its.length).filter fun j => f ((its[j]?).getD (.no .non))).head? with
  | none => rfl
  | some k => show some (0 + k) = some k; rw [Nat.zero_add]
theorem int_dps {K : PySem.W.Frag} {H : Hp} : ∀ l : List Nat, DpAll K H (l.map fun j : Nat => V.int (j : Int)) (l.map fun j : Nat => PyData.int (j : Int))
  | [] => .nil
  | x :: l => .cons (.int _) (int_dps l)
theorem int_sh : ∀ l : List Nat, PyData.canLayAll0 (l.map fun j : Nat => PyData.int (j : Int)) = true ∧ PyData.depthAll (l.map fun j : Nat => PyData.int (j : Int)) ≤ 1
  | [] => ⟨rfl, Nat.zero_le _⟩
  | x :: l => ⟨by show (true && _) = true; rw [(int_sh l).1]; rfl, by have := (int_sh l).2; simp only [List.map_cons, PyData.depthAll, PyData.depth]; omega⟩
theorem int_shaped (l : List Nat) : SeqAt.shaped (.list (l.map fun j : Nat => PyData.int (j : Int))) = true := by
  have h := int_sh l
  show (PyData.canLayAll0 _ && decide (PyData.depthAll _ + 1 ≤ 64)) = true
  rw [h.1, decide_eq_true (by omega)]; rfl
theorem int_nil (l : List Nat) : PyData.eqv (.list (l.map fun j : Nat => PyData.int (j : Int))) (.list []) = decide (l = []) := by
  cases l with
  | nil => rfl
  | cons x r => rw [decide_eq_false (fun z => nomatch z)]; rfl
theorem ok_due {f : Addr} {fd : FuncData} (F : C8.Def K mg "_law_due" s_due f fd) (b : Binds K fd ["_law_steps", "_law_reading"] []) (T : Tx K w mg) (C_lawGrowth : C8.Cal P w K mg base 1 "_law_growth" sp_lawGrowth []) : C8.Cal P w K mg base 2 "_law_due" (sp_due K) [] := by
  refine C8.cal0 F b .nil sc_due (fun vs H Q E h => ?_) (fun cdv A outer s H vs Q E hr h => ?_)
  · obtain ⟨L, tv, xs, its, CG, r, rfl, _⟩ := h; rfl
  have hu := hu_of hr
  refine ⟨_, (pss_cons (ps_if (pt_cmpR op_gt (pe_callB call_len (by rfl) T.z_len PySem.boot_len (pa_cons (pv 0) pa_nil)) pe_int (nomark _))
      (pss_one (ps_ret (pe_tup (pa_cons pe_str (pa_cons (pe_callB call_len (by rfl) T.z_len PySem.boot_len (pa_cons (pv 0) pa_nil)) (pa_cons pe_int pa_nil))))))
      pss_nil)
      (pss_cons (ps_setLc (i := 2) (own := [("_law_k", 5)]) (g := (gName 5)) (tt := _) rfl sc_due.nd rfl rfl (sw_true rfl rfl rfl (by decide +kernel)) (pi_range1 (by rfl) T.z_range (pa_cons (pe_callB call_len (by rfl) T.z_len PySem.boot_len (pa_cons (pv 0) pa_nil)) pa_nil)) (blkOk_by (N := N_due) (sc := C8.fnScope s_due) (by decide +kernel)) (fun _ _ _ _ _ => pg_name (i := 5) sc_due.nd rfl (Or.inl rfl)) (fun _ _ _ _ _ => pts_one (pt_not (pt_val (pe_callB (call_isiK (K := K) rfl) (by rfl) T.z_isinstance (by decide +kernel) (pa_cons (pe_ix (ix_listK (K := K) rfl) (pv 0) (pv 5) (fun _ _ => rfl)) (pa_cons (pe_bltn (v := .ty "tuple") (by rfl) T.z_tuple (by decide +kernel) rfl) pa_nil)))))) (fun _ _ _ _ _ => (pv 5)))
      (pss_cons (ps_if (pt_cmpR (op_neD hr.units) (pv 2) (pe_lst pa_nil) (nomark _))
      (pss_one (ps_ret (pe_tup (pa_cons pe_str (pa_cons (pe_ix ix_list (pv 2) pe_int (fun _ _ => rfl)) (pa_cons pe_bl pa_nil))))))
      pss_nil)
      (pss_cons (ps_if (pt_cmpR op_notN (pv 1) pe_non (nomark _))
      (pss_one (ps_ret (pe_tup (pa_cons pe_str (pa_cons pe_str (pa_cons pe_bl pa_nil))))))
      pss_nil)
      (pss_cons (ps_setLc (i := 3) (own := [("_law_k", 5)]) (g := (gName 5)) (tt := _) rfl sc_due.nd rfl rfl (sw_true rfl rfl rfl (by decide +kernel)) (pi_range1 (by rfl) T.z_range (pa_cons (pe_callB call_len (by rfl) T.z_len PySem.boot_len (pa_cons (pv 0) pa_nil)) pa_nil)) (blkOk_by (N := N_due) (sc := C8.fnScope s_due) (by decide +kernel)) (fun _ _ _ _ _ => pg_name (i := 5) sc_due.nd rfl (Or.inl rfl)) (fun _ _ _ _ _ => pts_one (pt_cmpR op_notN (pe_ix (ix_tupK (K := K) rfl) (pe_ix (ix_listK (K := K) rfl) (pv 0) (pv 5) (fun _ _ => rfl)) pe_int (fun _ _ => rfl)) pe_non (nomark _))) (fun _ _ _ _ _ => (pv 5)))
      (pss_cons (ps_if (pt_cmpR (op_neD hr.units) (pv 3) (pe_lst pa_nil) (nomark _))
      (pss_one (ps_ret (pe_tup (pa_cons pe_str (pa_cons (pe_ix ix_list (pv 3) pe_int (fun _ _ => rfl)) (pa_cons pe_bl pa_nil))))))
      pss_nil)
      (pss_cons (ps_set (i := 4) sc_due.nd rfl (Or.inl rfl) (C8.pe_c C_lawGrowth hr (by decide) rfl (pa_cons (pv 0) pa_nil)))
      (pss_one (ps_ret (pe_ifExp (pt_cmpR op_gt (pv 4) pe_int (nomark _)) (pe_tup (pa_cons pe_str (pa_cons (pv 4) (pa_cons pe_int pa_nil)))) pe_non)))))))))), ?_⟩

  obtain ⟨L, tv, xs, its, CG, r, rfl, hL, hi, hl, hr0, hnt, q⟩ := h
  obtain ⟨l1, ha⟩ := id hi
  refine ⟨_, rfl, _, xs.length, rfl, .inl ⟨_, SqL.of hL, rfl⟩, _, _, rfl, rfl, _, rfl, ?_⟩
  by_cases c1 : 6 < its.length
  · have e1 : dueF its r = .steps its.length := by unfold dueF dueC; rw [if_pos c1]
    refine ify (decide_eq_true (by omega)) ⟨_, rfl, _, xs.length, rfl, .inl ⟨_, SqL.of hL, rfl⟩, szB (show 3 ≤ 1000000 by decide), fun T0 hT => ?_⟩
    refine q _ _ (same1 hT _) ?_
    rw [e1, ← l1]
    exact .tup (SqT.of upd_same) (.cons (.str _) (.cons (.int _) (.cons (.int _) .nil)))
  refine ifn (decide_eq_false (by omega)) ?_
  refine ⟨_, rfl, _, xs.length, rfl, .inl ⟨_, SqL.of hL, rfl⟩, _, rfl, by omega, by omega, fun D1 hD1 => ?_⟩
  rw [show ((xs.length : Nat) : Int).toNat = xs.length from Int.toNat_natCast _]
  refine lc_range (fun i H' => Same H H' ∧ H' D1 = some (.lst ((nums It.isNo its i).map fun j : Nat => V.int (j : Int)))) ⟨same1 hD1 _, upd_same⟩ ?_ ?_
  · rintro i H' hil ⟨g1, g2⟩
    have e0 : (0 : Int) + (i : Int) = (i : Int) := by omega
    have hx : xs[i]? = some xs[i] := List.getElem?_eq_getElem hil
    have hq : its[i]? = some its[i] := List.getElem?_eq_getElem (by omega)
    obtain ⟨hv, ok⟩ := ha i _ _ hx hq
    have at1 : atI xs ((0 : Int) + (i : Int)) = some xs[i] := by rw [e0]; exact atI_nat hx
    have ns := nums_succ It.isNo its hq
    have nl := nums_len It.isNo its i
    generalize its[i] = it at hq hv ok ns
    generalize xs[i] = x at hx at1 hv
    refine ⟨rfl, _, rfl, _, rfl, L, xs, _, _, rfl, rfl, SqL.of (g1 _ _ hL), at1, ?_⟩
    have yes : it.isNo = true → ∃ acc, H' D1 = some (.lst acc) ∧ acc.length < sizeLine ∧ Same H (upd H' D1 (.lst (acc ++ [V.int ((0 : Int) + (i : Int))]))) ∧ (upd H' D1 (.lst (acc ++ [V.int ((0 : Int) + (i : Int))]))) D1 = some (.lst ((nums It.isNo its (i + 1)).map fun j : Nat => V.int (j : Int))) := fun c => by
      rw [if_pos c] at ns
      refine ⟨_, g2, szL (by rw [List.length_map]; omega), fun b o z => by rw [upd_ne (ne_of_none z hD1)]; exact g1 _ _ z, ?_⟩
      rw [upd_same, ns, List.map_append, e0]; rfl
    have nop : it.isNo = false → Same H H' ∧ H' D1 = some (.lst ((nums It.isNo its (i + 1)).map fun j : Nat => V.int (j : Int))) := fun c => by
      rw [if_neg (by rw [c]; exact Bool.false_ne_true), List.append_nil] at ns
      rw [ns]; exact ⟨g1, g2⟩
    cases it with
    | st s =>
      obtain ⟨a, rfl, cv, e, _⟩ := hv
      exact ⟨_, _, _, _, true, rfl, .ty "tuple", .base (.tup (g1 _ _ e)), kit_ty (by decide +kernel), _, rfl, ifn rfl (nop rfl)⟩
    | no u =>
      obtain rfl : x = u := hv
      rcases ok with rfl | rfl | rfl
      · exact ⟨_, _, _, _, false, rfl, .ty "tuple", .base .non, kit_ty (by decide +kernel), _, rfl, ify rfl ⟨_, rfl, yes rfl⟩⟩
      · exact ⟨_, _, _, _, false, rfl, .ty "tuple", .base (.str _), kit_ty (by decide +kernel), _, rfl, ify rfl ⟨_, rfl, yes rfl⟩⟩
      · exact ⟨_, _, _, _, false, rfl, .ty "tuple", .base (.int _), kit_ty (by decide +kernel), _, rfl, ify rfl ⟨_, rfl, yes rfl⟩⟩
  rintro H1 ⟨s1, hD1'⟩
  rw [l1] at hD1'
  have f1 := nums_fst It.isNo its
  refine ⟨_, rfl, szB (by decide), fun A0 hA0 => ?_⟩
  have s2 : Same H (upd H1 A0 (.lst [])) := fun b o z => same1 hA0 _ _ _ (s1 _ _ z)
  have hD2 := same1 hA0 (.lst []) _ _ hD1'
  have hA2 : (upd H1 A0 (.lst [])) A0 = some (.lst []) := upd_same
  generalize upd H1 A0 (.lst []) = H2 at s2 hD2 hA2 ⊢
  refine ⟨_, _, .lst (SqL.of hD2) (int_dps _), .lst (SqL.of hA2) .nil, int_shaped _, rfl, _, rfl, ?_⟩
  have nl := nums_len It.isNo its its.length
  generalize nums It.isNo its its.length = ns at f1 hD2 nl ⊢
  cases ns with
  | cons k rest =>
    have e1 : dueF its r = .step k := by unfold dueF dueC; rw [if_neg c1, f1]; rfl
    refine ify rfl ⟨_, rfl, D1, _, _, _, rfl, rfl, SqL.of hD2, atI_nat (j := 0) rfl, szB (show 3 ≤ 1000000 by decide), fun T0 hT => ?_⟩
    refine q _ _ (fun b o z => same1 hT _ _ _ (s2 _ _ z)) ?_
    rw [e1]
    exact .tup (SqT.of upd_same) (.cons (.str _) (.cons (.int _) (.cons (.bl _) .nil)))
  | nil =>
  have hno : ∀ y ∈ its, y.isNo = false := fst_all f1
  refine ifn rfl ?_
  cases r with
  | tongue => exact absurd rfl hnt
  | bad =>
    have e1 : dueF its .bad = .word := by unfold dueF dueC; rw [if_neg c1, f1]; rfl
    have hv : tv ≠ .non := by rcases hr0 with rfl | rfl | ⟨_, _, rfl, _⟩ <;> exact fun z => nomatch z
    refine ⟨_, rfl, rfl, _, rfl, ify (by rw [decide_eq_false hv]; rfl) ⟨szB (show 3 ≤ 1000000 by decide), fun T0 hT => ?_⟩⟩
    refine q _ _ (fun b o z => same1 hT _ _ _ (s2 _ _ z)) ?_
    rw [e1]
    exact .tup (SqT.of upd_same) (.cons (.str _) (.cons (.str _) (.cons (.bl _) .nil)))
  | no =>
  obtain rfl : tv = .non := hr0
  refine ⟨_, rfl, rfl, _, rfl, ifn (by rw [decide_eq_true rfl]; rfl) ?_⟩
  clear s1 hD1' hA2 hD2
  refine ⟨_, rfl, _, xs.length, rfl, .inl ⟨_, SqL.of (s2 _ _ hL), rfl⟩, _, rfl, by omega, by omega, fun D3 hD3 => ?_⟩
  rw [show ((xs.length : Nat) : Int).toNat = xs.length from Int.toNat_natCast _]
  refine lc_range (fun i H' => Same H H' ∧ H' D3 = some (.lst ((nums It.asks its i).map fun j : Nat => V.int (j : Int)))) ⟨fun b o z => same1 hD3 _ _ _ (s2 _ _ z), upd_same⟩ ?_ ?_
  · rintro i H' hil ⟨g1, g2⟩
    have e0 : (0 : Int) + (i : Int) = (i : Int) := by omega
    have hil2 : i < its.length := by omega
    have hx : xs[i]? = some xs[i] := List.getElem?_eq_getElem hil
    have hq : its[i]? = some its[i] := List.getElem?_eq_getElem hil2
    obtain ⟨hv, ok⟩ := ha i _ _ hx hq
    have nn := hno its[i] (List.getElem_mem hil2)
    have at1 : atI xs ((0 : Int) + (i : Int)) = some xs[i] := by rw [e0]; exact atI_nat hx
    have ns := nums_succ It.asks its hq
    have nl := nums_len It.asks its i
    generalize its[i] = it at hq hv ok ns nn
    generalize xs[i] = x at hx at1 hv
    cases it with
    | no u => cases nn
    | st s =>
      obtain ⟨a, rfl, cv, e, _⟩ := hv
      refine ⟨rfl, _, rfl, _, rfl, L, xs, _, _, rfl, rfl, SqL.of (g1 _ _ hL), at1, a, _, _, _, rfl, rfl, SqT.of (g1 _ _ e), rfl, rfl, _, rfl, ?_⟩
      cases hk : s.k with
      | true =>
        rw [if_pos (show It.asks (.st s) = true from hk)] at ns
        refine ify rfl ⟨_, rfl, _, g2, szL (by rw [List.length_map]; omega), fun b o z => ?_, ?_⟩
        · rw [upd_ne (ne_of_none (s2 _ _ z) hD3)]; exact g1 _ _ z
        · rw [upd_same, ns, List.map_append, e0]; rfl
      | false =>
        rw [if_neg (by rw [show It.asks (.st s) = false from hk]; exact Bool.false_ne_true), List.append_nil] at ns
        exact ifn rfl (by rw [ns]; exact ⟨g1, g2⟩)
  rintro H3 ⟨s3, hD3'⟩
  rw [l1] at hD3'
  have f2 := nums_fst It.asks its
  refine ⟨_, rfl, szB (by decide), fun A1 hA1 => ?_⟩
  have s4 : Same H (upd H3 A1 (.lst [])) := fun b o z => same1 hA1 _ _ _ (s3 _ _ z)
  have hD4 := same1 hA1 (.lst []) _ _ hD3'
  have hA4 : (upd H3 A1 (.lst [])) A1 = some (.lst []) := upd_same
  generalize upd H3 A1 (.lst []) = H4 at s4 hD4 hA4 ⊢
  refine ⟨_, _, .lst (SqL.of hD4) (int_dps _), .lst (SqL.of hA4) .nil, int_shaped _, rfl, _, rfl, ?_⟩
  generalize nums It.asks its its.length = ns at f2 hD4 ⊢
  cases ns with
  | cons k rest =>
    have e1 : dueF its .no = .tongue k := by unfold dueF dueC; rw [if_neg c1, f1]; dsimp only [List.head?]; rw [f2]; rfl
    refine ify rfl ⟨_, rfl, D3, _, _, _, rfl, rfl, SqL.of hD4, atI_nat (j := 0) rfl, szB (show 3 ≤ 1000000 by decide), fun T0 hT => ?_⟩
    refine q _ _ (fun b o z => same1 hT _ _ _ (s4 _ _ z)) ?_
    rw [e1]
    exact .tup (SqT.of upd_same) (.cons (.str _) (.cons (.int _) (.cons (.bl _) .nil)))
  | nil =>
  have e0 : dueC its .no = .fine := by unfold dueC; rw [if_neg c1, f1]; dsimp only [List.head?]; rw [f2]; rfl
  refine ifn rfl ⟨_, rfl, L, xs, its, rfl, s4 _ _ hL, ⟨hi.1, fun j v i a b => ⟨ItL.tk (hi.2 j v i a b).1 fun _ _ z => s4 _ _ z, (hi.2 j v i a b).2⟩⟩, hl, hno, fun H5 s5 => ?_⟩
  refine ⟨_, rfl, _, _, rfl, rfl, _, rfl, ?_⟩
  by_cases c3 : 36 < grA its
  · have e1 : dueF its .no = .growth (grA its) := by unfold dueF; rw [e0]; dsimp only; rw [if_pos c3]
    refine ify (decide_eq_true (by omega)) ⟨_, rfl, szB (show 3 ≤ 1000000 by decide), fun T0 hT => ?_⟩
    refine q _ _ (fun b o z => same1 hT _ _ _ (s5 _ _ (s4 _ _ z))) ?_
    rw [e1]
    exact .tup (SqT.of upd_same) (.cons (.str _) (.cons (.int _) (.cons (.int _) .nil)))
  · have e1 : dueF its .no = .fine := by unfold dueF; rw [e0]; dsimp only; rw [if_neg c3]
    refine ifn (decide_eq_false (by omega)) ?_
    refine q _ _ (fun b o z => s5 _ _ (s4 _ _ z)) ?_
    rw [e1]
    exact .non

end
end Vf

set_option maxRecDepth 100000
set_option maxHeartbeats 4000000
namespace Vf
open PySem PySem.Spec PyProof.Rows L2 SX
section
variable {P : Program} {w : World} {K : PySem.W.Frag} {mg : Str → Option Value} {base : Heap}
/-- instances stay -/
def KI (H H' : Hp) : Prop := ∀ b C dx fs, H b = some (.ins C dx fs) → H' b = some (.ins C dx fs)
theorem KI.ks {H H' : Hp} (s : Ks H H') : KI H H' := fun b C dx fs e => s.1 _ _ e (fun _ z => nomatch z)
theorem KI.sm {H H' : Hp} (s : Same H H') : KI H H' := fun b C dx fs e => s _ _ e
theorem KI.lst {H0 H : Hp} {L : Addr} {xs ys : List V} (s : KI H0 H) (h : H L = some (.lst xs)) : KI H0 (upd H L (.lst ys)) := fun b C dx fs e => keepU h (s b C dx fs e) (fun _ z => nomatch z)
theorem TsAt.ki {C : Addr} {H H' : Hp} {a : Addr} : ∀ {t : Tst}, TsAt C H a t → KI H H' → TsAt C H' a t
  | .pl _ _, ⟨dx, e⟩, s => ⟨dx, s _ _ _ _ e⟩
  | .rg _ _ _, ⟨dx, b, c, e, ⟨d1, h1⟩, ⟨d2, h2⟩⟩, s => ⟨dx, b, c, s _ _ _ _ e, ⟨d1, s _ _ _ _ h1⟩, ⟨d2, s _ _ _ _ h2⟩⟩
theorem TvP.ki {CL : Addr} {H H' : Hp} {t : Option Tst} {v : V} (h : TvP CL H t v) (s : KI H H') : TvP CL H' t v := by
  cases t with
  | none => exact h
  | some t => obtain ⟨c, e, z⟩ := h; exact ⟨c, e, z.ki s⟩
theorem StAt.ki {CL CS : Addr} {H H' : Hp} {a : Addr} {s : Stp} (h : StAt CL CS H a s) (m : KI H H') : StAt CL CS H' a s := let ⟨dx, tv, e, z⟩ := h; ⟨dx, tv, m _ _ _ _ e, z.ki m⟩
theorem ItP.ki {CL CS : Addr} {H H' : Hp} {v : V} {i : It} (h : ItP CL CS H v i) (m : KI H H') : ItP CL CS H' v i := by
  cases i with
  | st s => obtain ⟨a, e, z⟩ := h; exact ⟨a, e, z.ki m⟩
  | no u => exact h
theorem ItsP.ks {CL CS : Addr} {H H' : Hp} {vs : List V} {its : List It} (h : ItsP CL CS H vs its) (m : Ks H H') : ItsP CL CS H' vs its := ⟨h.1, fun j v i a b => ⟨(h.2 j v i a b).1.ki (KI.ks m), (h.2 j v i a b).2⟩⟩
theorem ItsP.sm {CL CS : Addr} {H H' : Hp} {vs : List V} {its : List It} (h : ItsP CL CS H vs its) (m : Same H H') : ItsP CL CS H' vs its := h.ks (Ks.of m)
theorem ItsL.ks {H H' : Hp} {vs : List V} {its : List It} (h : ItsL H vs its) (m : Ks H H') : ItsL H' vs its := ⟨h.1, fun j v i a b => ⟨ItL.tk (h.2 j v i a b).1 m.tk, (h.2 j v i a b).2⟩⟩
theorem ItsP.drop1 {CL CS : Addr} {H : Hp} {vs : List V} {its : List It} (h : ItsP CL CS H vs its) : ItsP CL CS H (vs.drop 1) (its.drop 1) := ⟨by rw [List.length_drop, List.length_drop, h.1], fun j v i a b => h.2 (1 + j) v i (by rw [List.getElem?_drop] at a; exact a) (by rw [List.getElem?_drop] at b; exact b)⟩
theorem ItsP.sts {CL CS : Addr} {H : Hp} {vs : List V} {its : List It} (h : ItsP CL CS H vs its) (n : ∀ i ∈ its, i.isNo = false) : StsP CL CS H vs := fun v hv => by
  obtain ⟨j, hj, rfl⟩ := List.mem_iff_getElem.mp hv
  have hj' : j < its.length := by rw [← h.1]; exact hj
  obtain ⟨z, o⟩ := h.2 j _ its[j] (List.getElem?_eq_getElem hj) (List.getElem?_eq_getElem hj')
  have := n its[j] (List.getElem_mem hj')
  generalize its[j] = i at z o this
  cases i with
  | no u => cases this
  | st s => obtain ⟨a, e, y⟩ := z; exact ⟨a, s, e, y, o⟩
/-! ### the data of the law's tuples -/
def Lay (d : PyData) (n : Nat) : Prop := d.canLay0 = true ∧ d.depth ≤ n
theorem Lay.sh {d : PyData} {n : Nat} (h : Lay d n) (l : n ≤ 64) : SeqAt.shaped d = true := by
  show (d.canLay0 && decide (d.depth ≤ 64)) = true
  rw [h.1, decide_eq_true (Nat.le_trans h.2 l)]; rfl
theorem Lay.of {d : PyData} (h : SeqAt.shaped d = true) (e : d.depth = 0) : Lay d 0 := ⟨SeqAt.canLay_of_shaped h, by omega⟩
def LayA (ds : List PyData) (n : Nat) : Prop := PyData.canLayAll0 ds = true ∧ PyData.depthAll ds ≤ n
theorem LayA.nil {n : Nat} : LayA [] n := ⟨rfl, Nat.zero_le _⟩
theorem LayA.cons {d : PyData} {ds : List PyData} {n m : Nat} (h : Lay d m) (l : m ≤ n) (r : LayA ds n) : LayA (d :: ds) n := ⟨by show (d.canLay0 && PyData.canLayAll0 ds) = true; rw [h.1, r.1]; rfl, Nat.max_le.mpr ⟨Nat.le_trans h.2 l, r.2⟩⟩
theorem LayA.tup {ds : List PyData} {n : Nat} (h : LayA ds n) : Lay (.tuple ds) (n + 1) := ⟨h.1, Nat.succ_le_succ h.2⟩
theorem LayA.lst {ds : List PyData} {n : Nat} (h : LayA ds n) : Lay (.list ds) (n + 1) := ⟨h.1, Nat.succ_le_succ h.2⟩
theorem lay_str {s : Str} (h : PyData.strOk s = true) : Lay (.str s) 0 := ⟨h, Nat.le_refl 0⟩
theorem lay_bool (b : Bool) : Lay (.bool b) 0 := ⟨rfl, Nat.le_refl 0⟩
theorem lay_non : Lay .none 0 := ⟨rfl, Nat.le_refl 0⟩
theorem lay_int (i : Int) : Lay (.int i) 0 := ⟨rfl, Nat.le_refl 0⟩
theorem okP_str {p : Pt} (h : OkP p) : PyData.strOk p.1 = true := by
  cases h with
  | wd h => rcases h with rfl | rfl | rfl | rfl <;> (dsimp only; decide +kernel)
  | sh => dsimp only; decide +kernel
  | nu => dsimp only; decide +kernel
  | ba h => rcases h with rfl | rfl <;> (dsimp only; decide +kernel)
theorem vD_lay {p : Pt} (h : OkP p) : Lay (vD p.2) 0 := by
  refine Lay.of (sc_dp (K := []) (H := fun _ => none) h).2 ?_
  cases h <;> rfl
theorem pl_dp {K : PySem.W.Frag} {H : Hp} {c : Addr} {p : Pt} {n : Bool} (h : H c = some (.tup (cT p .non .non n))) (o : OkP p) : Dp K H (.ref c) (cD p .none .none n) ∧ Lay (cD p .none .none n) 1 :=
  ⟨.tup (SqT.of h) (.cons (.str _) (.cons (sc_dp o).1 (.cons .non (.cons .non (.cons (.bl _) .nil))))), (LayA.cons (lay_str (okP_str o)) (Nat.le_refl _) (.cons (vD_lay o) (Nat.le_refl _) (.cons lay_non (Nat.le_refl _) (.cons lay_non (Nat.le_refl _) (.cons (lay_bool _) (Nat.le_refl _) .nil))))).tup⟩
theorem ck_dp {K : PySem.W.Frag} {H : Hp} {c : Addr} : ∀ {t : Tst}, CkAt H c t → OkT t → Dp K H (.ref c) (tD t) ∧ Lay (tD t) 2
  | .pl p n, h, o => ⟨(pl_dp h o).1, (pl_dp (K := K) h o).2.1, Nat.le_succ_of_le (pl_dp (K := K) h o).2.2⟩
  | .rg p q n, ⟨b, d, e, h1, h2⟩, o => ⟨.tup (SqT.of e) (.cons (.str _) (.cons .non (.cons (pl_dp h1 o.1).1 (.cons (pl_dp h2 o.2).1 (.cons (.bl _) .nil))))),
      (LayA.cons (lay_str (by decide +kernel)) (Nat.zero_le _) (.cons lay_non (Nat.zero_le _) (.cons (pl_dp (K := K) h1 o.1).2 (Nat.le_refl _) (.cons (pl_dp (K := K) h2 o.2).2 (Nat.le_refl _) (.cons (lay_bool _) (Nat.zero_le _) .nil))))).tup⟩
theorem okS_str {s : Stp} (h : OkS s) : PyData.strOk s.w = true := by
  cases h with
  | ex h => rcases h with rfl | rfl | rfl <;> (dsimp only; decide +kernel)
  | dk h => rcases h with rfl | rfl <;> (dsimp only; decide +kernel)
  | pt h => rcases h with rfl | rfl | rfl | rfl <;> (dsimp only; decide +kernel)
  | sp => dsimp only; decide +kernel
theorem sl_dp {K : PySem.W.Frag} {H : Hp} {a : Addr} {s : Stp} (h : SlAt H a s) (o : OkS s) : ∃ d, Dp K H (.ref a) d ∧ Lay d 3 := by
  obtain ⟨cv, e, z⟩ := h
  have ht : ∃ d, Dp K H cv d ∧ Lay d 2 := by
    have oo := o.tst
    generalize s.t = t at z oo
    cases t with
    | none => obtain rfl : cv = .non := z; exact ⟨_, .non, rfl, Nat.zero_le _⟩
    | some t => obtain ⟨c, rfl, y⟩ := z; exact ⟨_, ck_dp y (oo t rfl)⟩
  obtain ⟨d, d1, d2⟩ := ht
  have on := o.on
  have z1 : Lay (oD s.o) 0 := Lay.of (oD_sh on.1) (by cases s.o <;> rfl)
  have z2 : Lay (oD s.n) 0 := Lay.of (oD_sh on.2) (by cases s.n <;> rfl)
  have z3 : Lay (kD s.k) 0 := Lay.of (kD_sh _) (by cases s.k <;> rfl)
  exact ⟨_, .tup (SqT.of e) (.cons (.str _) (.cons (oD_dp _) (.cons (oD_dp _) (.cons (kD_dp _) (.cons d1 (.cons .non .nil)))))),
    (LayA.cons (lay_str (okS_str o)) (Nat.zero_le _) (.cons z1 (Nat.zero_le _) (.cons z2 (Nat.zero_le _) (.cons z3 (Nat.zero_le _) (.cons d2 (Nat.le_refl _) (.cons lay_non (Nat.zero_le _) .nil)))))).tup⟩
theorem all_dp {K : PySem.W.Frag} {H : Hp} {n : Nat} : ∀ (vs : List V), (∀ v ∈ vs, ∃ d, Dp K H v d ∧ Lay d n) → ∃ ds, DpAll K H vs ds ∧ LayA ds n ∧ (ds = [] ↔ vs = [])
  | [], _ => ⟨[], .nil, .nil, ⟨fun _ => rfl, fun _ => rfl⟩⟩
  | v :: vs, h => by
    obtain ⟨d, d1, d2⟩ := h v (.head _)
    obtain ⟨ds, e1, e2, _⟩ := all_dp vs fun x hx => h x (.tail _ hx)
    exact ⟨d :: ds, .cons d1 e1, .cons d2 (Nat.le_refl _) e2, ⟨(fun z => nomatch z), (fun z => nomatch z)⟩⟩
theorem its_dp {K : PySem.W.Frag} {H : Hp} {vs : List V} {its : List It} (h : ItsL H vs its) (n : ∀ i ∈ its, i.isNo = false) : ∃ ds, DpAll K H vs ds ∧ LayA ds 3 ∧ (ds = [] ↔ vs = []) := all_dp vs fun v hv => by
  obtain ⟨j, hj, rfl⟩ := List.mem_iff_getElem.mp hv
  have hj' : j < its.length := by rw [← h.1]; exact hj
  obtain ⟨z, o⟩ := h.2 j _ its[j] (List.getElem?_eq_getElem hj) (List.getElem?_eq_getElem hj')
  have := n its[j] (List.getElem_mem hj')
  generalize its[j] = i at z o this
  cases i with
  | no u => cases this
  | st s => obtain ⟨a, e, y⟩ := z; rw [e]; exact sl_dp y o
theorem nil_eqv (ds : List PyData) : PyData.eqv (.list ds) (.list []) = decide (ds = []) := by
  cases ds with
  | nil => rfl
  | cons x r => rw [decide_eq_false (fun z => nomatch z)]; rfl
/-! ### what is due, as data -/
theorem tri_sm {K : PySem.W.Frag} {H H' : Hp} {v : V} {a : Str} {x y : PyData} (hx : ∀ u, Dp K H u x → Dp K H' u x) (hy : ∀ u, Dp K H u y → Dp K H' u y) (s : Same H H') (h : Dp K H v (.tuple [.str a, x, y])) : Dp K H' v (.tuple [.str a, x, y]) := by
  cases h with
  | tup hs ha =>
    cases ha with
    | cons h1 r1 => cases r1 with
      | cons h2 r2 => cases r2 with
        | cons h3 r3 =>
          cases r3; cases h1
          exact .tup ((Ks.of s).seqT hs) (.cons (.str _) (.cons (hx _ h2) (.cons (hy _ h3) .nil)))
theorem du_sm {K : PySem.W.Frag} {H H' : Hp} {v : V} {d : Du} (h : Dp K H v (duD d)) (s : Same H H') : Dp K H' v (duD d) := by
  have fi : ∀ (i : Int) u, Dp K H u (.int i) → Dp K H' u (.int i) := fun i u h => by cases h; exact .int _
  have fb : ∀ (i : Bool) u, Dp K H u (.bool i) → Dp K H' u (.bool i) := fun i u h => by cases h; exact .bl _
  have fs : ∀ (i : Str) u, Dp K H u (.str i) → Dp K H' u (.str i) := fun i u h => by cases h; exact .str _
  cases d with
  | fine => cases h; exact .non
  | steps n => exact tri_sm (fi _) (fi _) s h
  | step n => exact tri_sm (fi _) (fb _) s h
  | word => exact tri_sm (fs _) (fb _) s h
  | tongue n => exact tri_sm (fi _) (fb _) s h
  | growth n => exact tri_sm (fi _) (fi _) s h
theorem du_non {K : PySem.W.Frag} {H : Hp} {v : V} {d : Du} (h : Dp K H v (duD d)) : (d = .fine ∧ v = .non) ∨ (d ≠ .fine ∧ v ≠ .non) := by
  cases d with
  | fine => cases h; exact .inl ⟨rfl, rfl⟩
  | steps n => cases h; exact .inr ⟨(fun z => nomatch z), (fun z => nomatch z)⟩
  | step n => cases h; exact .inr ⟨(fun z => nomatch z), (fun z => nomatch z)⟩
  | word => cases h; exact .inr ⟨(fun z => nomatch z), (fun z => nomatch z)⟩
  | tongue n => cases h; exact .inr ⟨(fun z => nomatch z), (fun z => nomatch z)⟩
  | growth n => cases h; exact .inr ⟨(fun z => nomatch z), (fun z => nomatch z)⟩
theorem tri_sh {a : Str} {x y : PyData} (ha : PyData.strOk a = true) (hx : Lay x 0) (hy : Lay y 0) : SeqAt.shaped (.tuple [.str a, x, y]) = true := (LayA.cons (lay_str ha) (Nat.zero_le _) (.cons hx (Nat.zero_le _) (.cons hy (Nat.zero_le _) .nil)) : LayA _ 0).tup.sh (by decide)
theorem du_sh (d : Du) : SeqAt.shaped (duD d) = true := by
  cases d with
  | fine => exact lay_non.sh (by decide)
  | steps n => exact tri_sh (by decide +kernel) (lay_int _) (lay_int _)
  | step n => exact tri_sh (by decide +kernel) (lay_int _) (lay_bool _)
  | word => exact tri_sh (by decide +kernel) (lay_str (by decide +kernel)) (lay_bool _)
  | tongue n => exact tri_sh (by decide +kernel) (lay_int _) (lay_bool _)
  | growth n => exact tri_sh (by decide +kernel) (lay_int _) (lay_int _)
theorem du_self (d : Du) : PyData.eqv (duD d) (duD d) = true := by
  cases d <;> simp [duD, PyData.eqv, PyData.eqvAll]
/-! ### the script without its first step -/
theorem grA_cons (i : It) (l : List It) : grA (i :: l) = i.gr * grA l := by
  have h : ∀ (l : List It) (g : Nat), l.foldl (fun g i => g * i.gr) g = g * grA l := by
    intro l
    induction l with
    | nil => intro g; exact (Nat.mul_one g).symm
    | cons x l ih =>
      intro g
      show l.foldl (fun g i => g * i.gr) (g * x.gr) = g * (l.foldl (fun g i => g * i.gr) (1 * x.gr))
      rw [ih, ih, Nat.one_mul, Nat.mul_assoc]
  show l.foldl (fun g i => g * i.gr) (1 * i.gr) = _
  rw [h, Nat.one_mul]
theorem gr_pos {i : It} (h : ItOk i) : 1 ≤ i.gr := by
  cases i with
  | st s => exact (grS_le h).2
  | no v => exact Nat.le_refl 1
theorem fst_mem {f : It → Bool} {l : List It} {k : Nat} (h : ∀ i ∈ l, f i = false) : fstAt f k l = none := fst_none h
theorem due_no {its : List It} {r : Rd} (hr : r ≠ .tongue) (h : dueF its r = .fine) : r = .no ∧ its.length ≤ 6 ∧ (∀ i ∈ its, i.isNo = false) ∧ (∀ i ∈ its, i.asks = false) ∧ grA its ≤ 36 := by
  unfold dueF at h
  cases e : dueC its r with
  | steps n => rw [e] at h; cases h
  | step n => rw [e] at h; cases h
  | word => rw [e] at h; cases h
  | tongue n => rw [e] at h; cases h
  | growth n => rw [e] at h; cases h
  | fine =>
    rw [e] at h
    obtain ⟨l6, hn⟩ := due_fine e
    have g : grA its ≤ 36 := by
      by_cases c : 36 < grA its
      · dsimp only at h; rw [if_pos c] at h; cases h
      · omega
    unfold dueC at e
    rw [if_neg (by omega), fst_none hn] at e
    cases r with
    | tongue => exact absurd rfl hr
    | bad => cases e
    | no =>
      dsimp only at e
      cases e2 : fstAt It.asks 0 its with
      | some k => rw [e2] at e; cases e
      | none => exact ⟨rfl, l6, hn, fst_all e2, g⟩
theorem due_of {its : List It} (h1 : its.length ≤ 6) (h2 : ∀ i ∈ its, i.isNo = false) (h3 : ∀ i ∈ its, i.asks = false) (h4 : grA its ≤ 36) : dueF its .no = .fine := by
  unfold dueF dueC
  rw [if_neg (by omega), fst_none h2]
  dsimp only
  rw [fst_none h3]
  dsimp only
  rw [if_neg (by omega)]
theorem due_drop {its : List It} (ok : ∀ i ∈ its, ItOk i) (h : dueF its .no = .fine) : dueF (its.drop 1) .no = .fine := by
  obtain ⟨_, h1, h2, h3, h4⟩ := due_no (r := .no) (fun z => nomatch z) h
  cases its with
  | nil => exact h
  | cons i l =>
    refine due_of (by show l.length ≤ 6; have : (i :: l).length = l.length + 1 := rfl; omega) (fun x hx => h2 x (.tail _ hx)) (fun x hx => h3 x (.tail _ hx)) ?_
    rw [grA_cons] at h4
    have := gr_pos (ok i (.head _))
    show grA l ≤ 36
    exact Nat.le_trans (Nat.le_mul_of_pos_left _ this) h4

end
end Vf

set_option maxRecDepth 100000
set_option maxHeartbeats 4000000
namespace Vf
open PySem PySem.Spec PyProof.Rows L2 SX
section
variable {P : Program} {w : World} {K : PySem.W.Frag} {mg : Str → Option Value} {base : Heap}
theorem pick_rd {CG C0 : Addr} {H : Hp} {v : V} (h : v ∈ ([.non, .non, .non, .non, .str "quote", .int 3, .ref C0] : List V)) (hc : H C0 = some (.lst [.str "code"])) : ∃ r, RdAt CG H v r ∧ r ≠ .tongue := by
  rcases List.mem_cons.mp h with rfl | h
  · exact ⟨.no, rfl, fun z => nomatch z⟩
  rcases List.mem_cons.mp h with rfl | h
  · exact ⟨.no, rfl, fun z => nomatch z⟩
  rcases List.mem_cons.mp h with rfl | h
  · exact ⟨.no, rfl, fun z => nomatch z⟩
  rcases List.mem_cons.mp h with rfl | h
  · exact ⟨.no, rfl, fun z => nomatch z⟩
  rcases List.mem_cons.mp h with rfl | h
  · exact ⟨.bad, .inl rfl, fun z => nomatch z⟩
  rcases List.mem_cons.mp h with rfl | h
  · exact ⟨.bad, .inr (.inl rfl), fun z => nomatch z⟩
  rcases List.mem_cons.mp h with rfl | h
  · exact ⟨.bad, .inr (.inr ⟨C0, _, rfl, hc⟩), fun z => nomatch z⟩
  cases h
theorem RdAt.sm {CG : Addr} {H H' : Hp} {v : V} {r : Rd} (h : RdAt CG H v r) (s : Same H H') : RdAt CG H' v r := by
  cases r with
  | no => exact h
  | tongue => obtain ⟨a, t, e, d1, e1, e2, e3, z1, z2⟩ := h; exact ⟨a, t, e, d1, e1, e2, e3, s _ _ z1, s _ _ z2⟩
  | bad => exact h.imp id (Or.imp id fun ⟨a, zs, e, z⟩ => ⟨a, zs, e, s _ _ z⟩)
theorem st3 {H H1 H2 : Hp} (s : Same H H1) (t : Same H1 H2) : Same H H2 := fun b o z => t b o (s b o z)
theorem bl_eq {a b : Bool} (h : a = b) : (!decide (V.bl a = V.bl b)) = false := by subst h; rw [decide_eq_true rfl]; rfl
theorem ok_law {f : Addr} {fd : FuncData} {CR CD CG CL CS CC CBadWord CBadStep CTooMany CNoTongue P0 : Addr} (F : C8.Def K mg "law" s_law f fd) (T : Tx K w mg) (CD_Script : MakXD P w K mg base 5 "Script" CC (sp_Script_init K CL CS CG CC CBadStep CTooMany CNoTongue CBadWord) [.non]) (EO_Script : EqO P w K mg base 6 CC (EqC CL CS CG CC)) (EA_Step : EqAny P w K mg base 4 CS (StR CL CS)) (A0 : Ca K CR CD CG) (AL : CaL K CL) (AS : CaS K CS) (AC : CaC K CC) (FL : Fgn K CL) (FS : Fgn K CS) (FC : Fgn K CC) (FG : Fgn K CG) (C_pen : C8.Cal P w K mg base 1 "_law_pen" (sp_pen K) []) (C_signs : C8.Cal P w K mg base 3 "_law_signs" sp_signs []) (C_drawnSteps : C8.Cal P w K mg base 8 "_law_drawn_steps" sp_drawnSteps []) (C_madeOrNot : C8.Cal P w K mg base 8 "_law_made_or_not" (sp_madeOrNot CL CS) []) (C_pick : C8.Cal P w K mg base 2 "_law_pick" sp_pick []) (C_due : C8.Cal P w K mg base 2 "_law_due" (sp_due K) []) (C_refused : C8.Cal P w K mg base 7 "_law_refused" (sp_refused K CL CS CG CC) []) (C_lawGrowth : C8.Cal P w K mg base 1 "_law_growth" sp_lawGrowth []) (C_areTonguesRight : C8.Cal P w K mg base 9 "_law_are_tongues_right" (sp_areTonguesRight P0) []) : RunAt P w K mg base callerA f fd ["_law_script"] (sp_law K P0) := by
  have hR : Room 10 callerA := ⟨rfl, by decide, by decide⟩
  refine runAt_of (k := 9) F.fn sc_law (fun vs H Q E h => ?_) hR (fun cdv out s H vs Q h => ?_)
  · obtain ⟨a, ns, rfl, _⟩ := h; rfl
  have hr : Room 9 (callerA.deeper (envOfC "law" (C8.fnScope s_law) s.heap.objs.size f cdv)) := hR.deeper _
  have hu := hu_of hr
  have hu64 := hr.units
  refine ⟨_, (pss_cons (ps_set (i := 1) sc_law.nd rfl (Or.inl rfl) (C8.pe_c C_pen hr (by decide) rfl (pa_cons (pv 0) pa_nil)))
      (pss_cons (ps_set (i := 2) sc_law.nd rfl (Or.inl rfl) (C8.pe_c C_signs hr (by decide) rfl (pa_cons (pv 1) pa_nil)))
      (pss_cons (ps_for PassesOwn.never rfl (pi_range1 (by rfl) T.z_range (pa_cons pe_int pa_nil)) (pg_name (i := 3) sc_law.nd rfl (Or.inl rfl))
      (pss_cons (ps_set (i := 4) sc_law.nd rfl (Or.inl rfl) (C8.pe_c C_drawnSteps hr (by decide) rfl (pa_cons (pv 1) (pa_cons (pv 2) pa_nil))))
      (pss_cons (ps_setLc (i := 5) (own := [("_law_step_here", 10)]) (g := (gName 10)) (tt := tYes) rfl sc_law.nd rfl rfl (sw_true rfl rfl rfl (by decide +kernel)) (pi_list (pv 4)) (blkOk_by (N := N_law) (sc := C8.fnScope s_law) (by decide +kernel)) (fun _ _ _ _ _ => pg_name (i := 10) sc_law.nd rfl (Or.inl rfl)) (fun _ _ _ _ _ => pts_nil) (fun _ _ _ _ _ => (C8.pe_c C_madeOrNot hr (by decide) rfl (pa_cons (pv 10) pa_nil))))
      (pss_cons (ps_set (i := 6) sc_law.nd rfl (Or.inl rfl) (C8.pe_c C_pick hr (by decide) rfl (pa_cons (pv 1) (pa_cons (pe_lst (pa_cons pe_non (pa_cons pe_non (pa_cons pe_non (pa_cons pe_non (pa_cons pe_str (pa_cons pe_int (pa_cons (pe_lst (pa_cons pe_str pa_nil)) pa_nil)))))))) pa_nil))))
      (pss_cons (ps_set (i := 7) sc_law.nd rfl (Or.inl rfl) (C8.pe_c C_due hr (by decide) rfl (pa_cons (pv 4) (pa_cons (pv 6) pa_nil))))
      (C8.pss_cut (ps_if (PW.pt (pw_or (pt_cmpR (op_neD hr.units) (C8.pe_c C_refused hr (by decide) rfl (pa_cons (pv 5) (pa_cons (pv 6) pa_nil))) (pv 7) (nomark _)) (pw_or1 (pt_cmpR (op_neD hr.units) (C8.pe_c C_refused hr (by decide) rfl (pa_cons (pe_callTy call_tuple_of (by rfl) T.z_tuple (by decide +kernel) (pa_cons (pv 5) pa_nil)) (pa_cons (pv 6) pa_nil))) (pv 7) (nomark _)))))
      (pss_one (ps_ret pe_bl))
      pss_nil)
      (pss_one (ps_if (pt_cmpR op_isN (pv 7) pe_non (nomark _))
      (pss_cons (ps_par (i := 8) (j := 9) (by rfl) sc_law.nd rfl rfl (by decide) rfl rfl (pa_cons (pe_mkXD0 CD_Script hr (by decide) rfl (pa_cons (pv 5) pa_nil)) (pa_cons (pe_mkXD0 CD_Script hr (by decide) rfl (pa_cons (pe_callTy call_tuple_of (by rfl) T.z_tuple (by decide +kernel) (pa_cons (pv 5) pa_nil)) pa_nil)) pa_nil)) (by rfl))
      (C8.pss_cut (ps_if (PW.pt (pw_or (pt_cmpR (op_neTS hr) (pe_fld (pv 8) rfl) (pe_callTy call_tuple_of (by rfl) T.z_tuple (by decide +kernel) (pa_cons (pv 5) pa_nil)) (nomark _)) (pw_or (pt_cmpR op_notN (pe_fld (pv 8) rfl) pe_non (nomark _)) (pw_or (pt_cmpR op_ne (pe_fld (pv 8) rfl) (C8.pe_c C_lawGrowth hr (by decide) rfl (pa_cons (pv 4) pa_nil)) (nomark _)) (pw_or1 (pt_cmpR (op_neO EO_Script hr (by decide)) (pv 8) (pv 9) (nomark _)))))))
      (pss_one (ps_ret pe_bl))
      pss_nil)
      (pss_one (ps_if (PW.pt (pw_or (pt_cmpR op_ne (pe_cmpR (op_eqO EO_Script hr (by decide)) (pv 8) (pe_mkXD0 CD_Script hr (by decide) rfl (pa_cons (pe_slice sl_list (pv 5) (po_some pe_int) po_none) pa_nil)) (nomark _)) (pe_cmpR (op_eqD hr.units) (pv 4) (pe_lst pa_nil) (nomark _)) (nomark _)) (pw_or1 (pt_cmpR (op_eqO EO_Script hr (by decide)) (pv 8) (pv 5) (nomark _)))))
      (pss_one (ps_ret pe_bl))
      pss_nil))))
      pss_nil))))))))
      (pss_one (ps_ret (pe_and (pe_cmpR (op_eqTA EA_Step hr (by decide)) (pe_fld (pe_mkXD0 CD_Script hr (by decide) rfl (pa_cons (pe_lst pa_nil) pa_nil)) rfl) (pe_tup pa_nil) (nomark _)) (pe_and (pe_cmpR op_eq (pe_fld (pe_mkXD0 CD_Script hr (by decide) rfl (pa_cons (pe_tup pa_nil) pa_nil)) rfl) pe_int (nomark _)) (pe_one (C8.pe_c C_areTonguesRight hr (by decide) rfl (pa_cons (pv 1) pa_nil)))))))))), ?_⟩

  obtain ⟨a, ns, rfl, ha, hn, h0, q⟩ := h
  refine ⟨_, rfl, a, ns, rfl, ha, hn, fun H1 p c k1 p1 => ?_⟩
  have tb1 : LamX.Tabs (T0 P0) H1 := tabs_ks (fun x hx => by rw [List.mem_singleton.mp hx]; exact LamX.TabS.nil h0) k1
  refine ⟨_, rfl, p, c, 0, rfl, p1, by omega, fun H2 sg k2 p2 g1 g2 g3 => ?_⟩
  have tb2 := tabs_ks tb1 k2
  refine ⟨4, rfl, by decide, by decide, ?_⟩
  refine for_range (lo := 0) (n := 4) (fun i σ H' => ∃ (v3 v4 v5 v6 v7 v8 v9 : Option V), σ = [some (.ref a), some (.ref p), some (.str (S sg)), v3, v4, v5, v6, v7, v8, v9, none] ∧ PenAt H' p c (1 + i * 2010) ∧ LamX.Tabs (T0 P0) H')
    ⟨none, none, none, none, none, none, none, rfl, p2.mono (by omega), tb2⟩ ?_ ?_
  · rintro i σ H3 hi ⟨v3, v4, v5, v6, v7, v8, v9, rfl, p3, tb3⟩
    refine ⟨_, rfl, _, rfl, p, c, 1 + i * 2010, sg, rfl, p3, by omega, g1, g2, g3, fun H4 L xs its k4 p4 hL hi4 hl4 => ?_⟩
    have tb4 := tabs_ks tb3 k4
    refine ⟨_, rfl, L, rfl, ⟨_, SqL.of hL⟩, fun D hD => ?_⟩
    refine lc_list (K := K) (a := L) (xs := xs) (fun j H' => Same H4 H' ∧ ∃ acc, H' D = some (.lst acc) ∧ acc.length = j ∧ ∀ (t : Nat) (v : V) (it : It), acc[t]? = some v → its[t]? = some it → ItP CL CS H' v it) ⟨same1 hD _, [], upd_same, rfl, fun t v it z => nomatch z⟩ (fun j H' _ z => SqL.of (z.1 _ _ hL)) ?_ ?_
    · rintro j x H5 hx ⟨s5, acc, hD5, hlen, hac⟩
      have hil : j < its.length := by rw [← hi4.1]; exact (List.getElem?_eq_some_iff.mp hx).1
      have hq : its[j]? = some its[j] := List.getElem?_eq_getElem hil
      obtain ⟨hv, ok⟩ := hi4.2 j x _ hx hq
      generalize its[j] = it at hq hv ok
      refine ⟨rfl, ?_⟩
      dsimp only [tYes]
      rw [if_pos rfl]
      refine ⟨_, rfl, x, it, rfl, hv.tk (fun _ _ z => s5 _ _ z), ok, fun H6 u s6 hu => ⟨acc, s6 _ _ hD5, szL (by omega), ?_, acc ++ [u], upd_same, by rw [List.length_append, hlen]; rfl, fun t v it' ht hq' => ?_⟩⟩
      · intro b o z
        rw [upd_ne (ne_of_none z hD)]
        exact s6 _ _ (s5 _ _ z)
      · have ki : KI H6 (upd H6 D (.lst (acc ++ [u]))) := KI.lst (KI.sm fun _ _ z => z) (s6 _ _ hD5)
        by_cases c1 : t < acc.length
        · rw [List.getElem?_append_left c1] at ht
          exact ((hac t v it' ht hq').ki (KI.sm s6)).ki ki
        · rw [List.getElem?_append_right (by omega)] at ht
          have e0 : t - acc.length = 0 := by
            have := (List.getElem?_eq_some_iff.mp ht).1
            have : t - acc.length < 1 := this
            omega
          rw [e0] at ht
          cases ht
          have ej : t = j := by omega
          rw [ej, hq] at hq'
          cases hq'
          exact hu.ki ki
    rintro H5 ⟨s5, made, hD5, hlen, hac⟩
    have i5 : ItsP CL CS H5 made its := ⟨by rw [hlen, hi4.1], fun t v it z y => ⟨hac t v it z y, (hi4.2 t _ it (List.getElem?_eq_getElem (by rw [← hlen]; exact (List.getElem?_eq_some_iff.mp z).1)) y).2⟩⟩
    have oka : ∀ it ∈ its, ItOk it := fun it hit => by
      obtain ⟨t, ht, rfl⟩ := List.mem_iff_getElem.mp hit
      have ht' : t < xs.length := by rw [hi4.1]; exact ht
      exact (hi4.2 t _ _ (List.getElem?_eq_getElem ht') (List.getElem?_eq_getElem ht)).2
    have hL5 := s5 _ _ hL
    have l5 := hi4.ks (Ks.of s5)
    have p5 := p4.same s5
    have tb5 := tb4.ext s5
    have hi4x := hi4.1
    have hlen' : made.length = its.length := by rw [hlen, hi4.1]
    clear hac hD s5 hL hi4 tb4 p4
    refine ⟨_, rfl, szB (show 1 ≤ 1000000 by decide), fun C0 hC0 => ⟨szB (show 7 ≤ 1000000 by decide), fun C1 hC1 => ?_⟩⟩
    refine ⟨p, c, 1 + i * 2010 + 2000, _, rfl, (p5.new hC0).new hC1, by omega, .inr ⟨C1, _, rfl, upd_same, (show 1 ≤ 7 by decide), (show 7 ≤ 1000000 by decide), fun H6 rd k6 p6 hrd => ?_⟩⟩
    have kk : Ks H5 H6 := (Ks.of (same_new (same1 hC0 _) hC1 _)).trans k6
    obtain ⟨r, hr6, hnt⟩ := pick_rd (CG := CG) hrd (k6.lst (same1 hC1 _ _ _ upd_same))
    have hL6 := kk.lst hL5
    have hD6 := kk.lst hD5
    have l6 := l5.ks kk
    have i6 := i5.ks kk
    have tb6 := tabs_ks tb5 kk
    clear hrd kk k6 hC0 hC1 p5 i5 l5 hL5 hD5 tb5
    refine ⟨_, rfl, _, rfl, L, rd, xs, its, CG, r, rfl, hL6, l6, hl4, hr6, hnt, fun H7 dv s7 hdv => ?_⟩
    have hL7 := s7 _ _ hL6
    have hD7 := s7 _ _ hD6
    have l7 := l6.ks (Ks.of s7)
    have i7 := i6.sm s7
    have tb7 := tb6.ext s7
    have r7 := hr6.sm s7
    have p7 := p6.same s7
    clear s7 hL6 hD6 l6 i6 tb6 hr6 p6
    refine ⟨fun σ' H' => σ' = [some (.ref a), some (.ref p), some (.str (S sg)), some (.int ((0 : Int) + (i : Int))), some (.ref L), some (.ref D), some rd, some dv, v8, v9, none] ∧ Same H7 H', ?_, ?_⟩
    · refine ⟨_, rfl, _, rfl, D, rd, made, its, r, rfl, .inl hD7, i7, by omega, r7, fun H8 u s8 hu => ⟨_, rfl, _, _, hu, du_sm hdv s8, du_sh _, du_sh _, _, rfl, ifn (by rw [du_self]; rfl) ?_⟩⟩
      refine ⟨_, rfl, D, made, rfl, .inl ⟨SqL.of (s8 _ _ hD7), fun T hT => ?_⟩⟩
      have s8' := same_new s8 hT (.tup made)
      refine ⟨_, rfl, T, rd, made, its, r, rfl, .inr upd_same, i7.sm s8', by omega, r7.sm s8', fun H9 u' s9 hu' => ⟨_, rfl, _, _, hu', du_sm hdv (st3 s8' s9), du_sh _, du_sh _, _, rfl, ifn (by rw [du_self]; rfl) ⟨rfl, st3 s8' s9⟩⟩⟩
    rintro σ' H8 ⟨rfl, s8⟩
    refine ⟨_, rfl, rfl, _, rfl, ?_⟩
    have fin : ∀ (H' : Hp) (w4 w5 w6 w7 w8 w9 : Option V), Same H7 H' → ∃ (v3 v4 v5 v6 v7 v8 v9 : Option V), ([some (.ref a), some (.ref p), some (.str (S sg)), some (.int ((0 : Int) + (i : Int))), w4, w5, w6, w7, w8, w9, none] : List (Option V)) = [some (.ref a), some (.ref p), some (.str (S sg)), v3, v4, v5, v6, v7, v8, v9, none] ∧ PenAt H' p c (1 + (i + 1) * 2010) ∧ LamX.Tabs (T0 P0) H' :=
      fun H' w4 w5 w6 w7 w8 w9 s => ⟨_, _, _, _, _, _, _, rfl, (p7.same s).mono (by omega), tb7.ext s⟩
    rcases du_non hdv with ⟨ef, rfl⟩ | ⟨_, nv⟩
    · refine ify (decide_eq_true rfl) ?_
      obtain ⟨rfl, h6, hno, hna, hg⟩ := due_no hnt ef
      have hL8 := s8 _ _ hL7
      have hD8 := s8 _ _ hD7
      have i8 := i7.sm s8
      have l8 := l7.ks (Ks.of s8)
      clear hL7 hD7 i7 l7 hdv r7
      refine ⟨_, rfl, fun x1 dx1 hx1 hdx1 ne1 => mk_script (.inl hD8) i8 (by omega) rdN ef hx1 hdx1 ne1 fun H9 s9 sc1 => ⟨rfl, ?_⟩⟩
      refine ⟨_, rfl, D, made, rfl, .inl ⟨SqL.of (s9 _ _ hD8), fun T hT => ?_⟩⟩
      have s9' := same_new s9 hT (.tup made)
      refine fun x2 dx2 hx2 hdx2 ne2 => mk_script (.inr upd_same) (i8.sm s9') (by omega) rdN ef hx2 hdx2 ne2 fun H10 s10 sc2 => ⟨rfl, _, _, rfl, ?_⟩
      have sA := st3 s9' s10
      have sc1' : ScAt CC H10 x1 made .non (grA its) := sc1.ex (extN_same fun b o z => s10 _ _ (same1 hT _ _ _ z))
      have hL10 := sA _ _ hL8
      have hD10 := sA _ _ hD8
      have i10 := i8.sm sA
      have l10 := l8.ks (Ks.of sA)
      have s7A := st3 s8 sA
      clear hL8 hD8 i8 l8 s9 s10 sA s9' hT hx1 hdx1 ne1 hx2 hdx2 ne2 sc1 s8
      have refs : ∀ v ∈ made, ∃ c, v = V.ref c := fun v hv => let ⟨c, s, e, _⟩ := i10.sts hno v hv; ⟨c, e⟩
      have sts : ∀ {H' : Hp}, Same H10 H' → StsP CL CS H' made := fun s => (i10.sm s).sts hno
      have cl := AC.i.cl
      refine ⟨fun σ' H' => σ' = [some (.ref a), some (.ref p), some (.str (S sg)), some (.int ((0 : Int) + (i : Int))), some (.ref L), some (.ref D), some rd, some .non, some (.ref x1), some (.ref x2), none] ∧ Same H10 H', ?_, ?_⟩
      · obtain ⟨dxa, sta, ya1, ya2⟩ := id sc1'
        refine ⟨_, rfl, x1, CC, dxa, _, _, rfl, ya1, cl, AC.a1, rfl, _, rfl, D, made, rfl, .inl ⟨SqL.of hD10, fun T2 hT2 => ?_⟩⟩
        have s11 := same1 hT2 (.tup made)
        refine ⟨sta, T2, made, rfl, rfl, SqT.of (s11 _ _ ya2), SqT.of upd_same, refs, _, rfl, ifF ?_⟩
        generalize upd H10 T2 (.tup made) = H11 at s11 ⊢
        refine ⟨_, rfl, x1, CC, dxa, _, _, rfl, s11 _ _ ya1, cl, AC.a2, rfl, rfl, _, rfl, ifn (by rw [decide_eq_true rfl]; rfl) ?_⟩
        refine ⟨_, rfl, x1, CC, dxa, _, _, rfl, s11 _ _ ya1, cl, AC.a3, rfl, _, rfl, L, xs, its, rfl, s11 _ _ hL10, l10.ks (Ks.of s11), hl4, hno, fun H12 s12 => ⟨rfl, _, rfl, ifn (by rw [decide_eq_true rfl]; rfl) ?_⟩⟩
        have s13 := st3 s11 s12
        refine ⟨_, rfl, _, rfl, sc_eqI (sc1'.ex (extN_same s13)) (sc2.ex (extN_same s13)) (sts s13) (sts s13) (.inl ⟨rfl, .inl ⟨rfl, rfl, rfl⟩⟩) fun H14 s14 => ⟨_, rfl, ifF ⟨rfl, st3 s13 s14⟩⟩⟩
      rintro σ' H11 ⟨rfl, s11⟩
      refine ⟨_, rfl, _, rfl, _, rfl, ?_⟩
      dsimp only [tNoPart]
      refine sl1 (s11 _ _ hD10) fun M H12 s12 hM => ?_
      have i12 := i10.sm (st3 s11 s12)
      refine fun x3 dx3 hx3 hdx3 ne3 => mk_script (.inl hM) i12.drop1 (by rw [List.length_drop]; omega) rdN (due_drop oka ef) hx3 hdx3 ne3 fun H13 s13 sc3 => ⟨rfl, ?_⟩
      have s14 := st3 s11 (st3 s12 s13)
      have i13 := i12.sm s13
      refine .inr (.inl (sc_eqI (r := decide (xs = [])) (sc1'.ex (extN_same s14)) sc3 (sts s14) (i13.drop1.sts fun x hx => hno x (List.mem_of_mem_drop hx)) ?_ fun H15 s15 => ?_))
      · have lx : xs.length = made.length := by rw [hi4x, hlen']
        cases made with
        | nil =>
          have : xs = [] := List.length_eq_zero_iff.mp lx
          exact .inl ⟨rfl, .inl ⟨rfl, rfl, decide_eq_true this⟩⟩
        | cons y ys =>
          refine .inr ⟨fun z => ?_, decide_eq_false fun z => by rw [z] at lx; cases lx⟩
          have : (y :: ys).length = ys.length := z
          have : ys.length + 1 = ys.length := this
          omega
      have s16 := st3 s14 s15
      refine ⟨_, rfl, szB (show 0 ≤ 1000000 by decide), fun E0 hE0 => ?_⟩
      have s17 := st3 s16 (same1 hE0 (.lst []))
      obtain ⟨ds, d1, d2, d3⟩ := its_dp (K := K) (l10.ks (Ks.of s17)) hno
      refine ⟨.list ds, .list [], .lst (SqL.of (s17 _ _ hL10)) d1, .lst (SqL.of upd_same) .nil, d2.lst.sh (by decide), rfl, rfl, _, rfl, ?_⟩
      refine ifn (bl_eq (by rw [nil_eqv, Bool.bne_false]; exact decide_eq_decide.mpr d3.symm)) ?_
      generalize upd H15 E0 (.lst []) = H16 at s17 ⊢
      obtain ⟨dxa, sta, ya1, ya2⟩ := sc1'.ex (extN_same s17)
      refine ⟨_, rfl, _, rfl, .inr (.inr (.inl ⟨x1, dxa, _, _, rfl, ya1, .base (.lst (s17 _ _ hD10)), (FC.k "list" (by simp)).1, (FC.k "list" (by simp)).2, _, rfl, ifF ?_⟩))⟩
      exact fin H16 _ _ _ _ _ _ (st3 s7A s17)
    · exact ifn (decide_eq_false nv) (fin H8 _ _ _ _ _ _ s8)
  · rintro σ H3 ⟨v3, v4, v5, v6, v7, v8, v9, rfl, p3, tb3⟩
    have d0 : dueF [] .no = .fine := by kernel_rfl
    have i0 : ∀ {H' : Hp}, ItsP CL CS H' [] [] := ⟨rfl, fun j v i a => nomatch a⟩
    have cl := AC.i.cl
    refine ⟨szB (show 0 ≤ 1000000 by decide), fun L0 hL0 => ?_⟩
    refine fun x1 dx1 hx1 hdx1 ne1 => mk_script (.inl upd_same) i0 (by decide) rdN d0 hx1 hdx1 ne1 fun H4 s4 sc => ⟨rfl, ?_⟩
    obtain ⟨dxa, sta, ya1, ya2⟩ := sc
    have s4' := st3 (same1 hL0 _) s4
    refine ⟨x1, CC, dxa, _, _, rfl, ya1, cl, AC.a1, rfl, szB (show 0 ≤ 1000000 by decide), fun T0' hT0 => ?_⟩
    have s5 := same_new s4' hT0 (.tup [])
    refine .inl ⟨sta, T0', [], rfl, rfl, SqT.of (same1 hT0 _ _ _ ya2), SqT.of upd_same, (fun _ z => nomatch z), _, rfl, ifT ?_⟩
    generalize upd H4 T0' (.tup []) = H5 at s5 ⊢
    refine ⟨szB (show 0 ≤ 1000000 by decide), fun T1 hT1 => ?_⟩
    refine fun x2 dx2 hx2 hdx2 ne2 => mk_script (.inr upd_same) i0 (by decide) rdN d0 hx2 hdx2 ne2 fun H6 s6 sc => ⟨rfl, ?_⟩
    obtain ⟨dxb, stb, yb1, yb2⟩ := sc
    have s7 := st3 s5 (st3 (same1 hT1 _) s6)
    refine ⟨x2, CC, dxb, _, _, rfl, yb1, cl, AC.a3, rfl, rfl, _, rfl, ify (decide_eq_true rfl) ?_⟩
    exact ⟨_, rfl, p, c, _, rfl, p3.same s7, by omega, tb3.ext s7, fun H' => q H'⟩

end
end Vf

set_option maxRecDepth 100000
set_option maxHeartbeats 4000000
namespace Vf
open PySem PySem.Spec PyProof.Rows L2 SX
/-! ### the law's call, with one table of code objects, at the one place where the guards are known -/
section
variable {P : Program} {w : World} {K : PySem.W.Frag} {mg mb : Str → Option Value} {fa a cc P0 : Addr} {fd : FuncData} {x : Str} {sp : Sp} {s : Shared} {ws : List Value} {ns : List Int}
theorem law_coreT (KX : K.In s.heap) (hn : s.heap.Ns mainGlobals mg) (hb : s.heap.Ns builtinsNs mb) (hbb : ∀ y : Str, y ≠ "__name__" → mb y = bootBuiltins y) (hl : s.heap.NoLimit) (hg : s.gens = #[])
    (hbm : ∃ (bm : Addr) (ob : Obj), mg "__builtins__" = some (.ref bm) ∧ bm ≠ builtinsNs ∧ s.heap.get? bm = some ob ∧ ob.cls = .type "module" ∧ ob.dict = some builtinsNs ∧ ob.data = .plain)
    (ha : s.heap.get? a = some { cls := .type "list", data := .seq ws.toArray }) (hT : s.heap.get? P0 = some { cls := .none, data := .fields #[] }) (nT : K.lookup P0 = none) (C : PySem.W.CodeHd s.heap cc P0)
    (F : ∀ b : Heap, K.In b → b.Ns mainGlobals mg → LamX.TabB b mg cc P0 → RunAt P w K mg b callerA fa fd [x] sp)
    (bind : ∀ (z : Shared) (u : Value), BindsTo z fd ⟨[u], []⟩ [(x, u)]) (H : Hp) (hP : H P0 = some (.tbl #[])) (hO : ∀ b, b ≠ P0 → H b = none ∨ ∃ o xs, H b = some (.frz o (.lst xs))) (hS : sp [.ref a] H (fun v _ => v = .bl true) noE) (ok : HOk P w H s.heap)
    (hA : ∀ b, H b ≠ none → b = a ∨ b = P0) (hK : H a ≠ none → K.lookup a = none) : codeAny (model P w) callerA (.call (.ref fa) ⟨[.ref a], []⟩) (LawEnd s) s := by
  have free : ∀ {b : Addr} {o : Obj}, s.heap.get? b = some o → (∀ vs n, o.data ≠ .seq vs n) → o.data ≠ .fields #[] → H b = none := fun {b o} e h1 h2 =>
    match q : H b with
    | none => rfl
    | some u => by
      rcases hA b (fun n => nomatch n.symm.trans q) with rfl | rfl
      · cases ha.symm.trans e
        exact (h1 _ _ rfl).elim
      · cases hT.symm.trans e
        exact (h2 rfl).elim
  have dictN : ∀ {b : Addr} {o : Obj} {es : Array DictEntry} {ep : Nat}, s.heap.get? b = some o → o.data = .dict es ep → H b = none := fun e d =>
    free e (fun vs n z => nomatch d.symm.trans z) fun z => nomatch d.symm.trans z
  have nsN : ∀ {b : Addr} {m : Str → Option Value}, s.heap.Ns b m → (hidT s.heap H).Ns b m := fun {b m} n => by
    obtain ⟨o, es, ep, e, d, r⟩ := n
    exact ⟨o, es, ep, hidT_get e (dictN e d), d, r⟩
  have kin : K.In (hidT s.heap H) := fun b o e => hidT_get (KX b o e) (match q : H b with
    | none => rfl
    | some u => by
      rcases hA b (fun n => nomatch n.symm.trans q) with rfl | rfl
      · cases (hK fun n => nomatch n.symm.trans q).symm.trans e
      · cases nT.symm.trans e)
  have lim : (hidT s.heap H).NoLimit := by
    obtain ⟨mc, l1, l2⟩ := hl
    exact ⟨mc, nsN l1, l2⟩
  have tb : LamX.TabB (hidT s.heap H) mg cc P0 := by
    refine ⟨?_, ?_, fun z => ?_⟩
    · obtain ⟨o, us, c1, c2, c3, c4, c5, c6, c7, g, k, dd, rest⟩ := C
      exact ⟨o, us, c1, c2, c3, c4, c5, c6, c7, hidT_get g (free g (fun _ _ z => nomatch dd.symm.trans z) fun z => by
        cases dd.symm.trans z
        cases rest.1), k, dd, rest⟩
    · obtain ⟨bm, ob, b1, b2, b3, b4, b5, b6⟩ := hbm
      refine ⟨bm, ob, b1, b2, fun z => ?_, fun z => ?_, hidT_get b3 (free b3 (fun _ _ z => nomatch b6.symm.trans z) fun z => nomatch b6.symm.trans z), b4, b5, b6⟩
      · obtain ⟨o, es, ep, e, hd, _⟩ := hn
        subst z
        cases e.symm.trans b3
        exact nomatch hd.symm.trans b6
      · subst z
        cases hT.symm.trans b3
        exact nomatch b6
    · obtain ⟨o, es, ep, e, hd, _⟩ := hn
      subst z
      cases hT.symm.trans e
      exact nomatch hd
  have e0 : Env0 P w K mg (hidT s.heap H) callerA [] s H := ⟨rfl, ⟨kin, nsN hn, ⟨mb, nsN hb, hbb⟩, lim⟩, fun _ _ e => of_hidT e, Nat.le_of_eq (hidT_size _ _), trivial, fun b z => absurd (show b ∈ ([] : List Addr) from z) List.not_mem_nil, ok, .of_eq hg⟩
  refine codeAny_mono (F _ kin (nsN hn) tb [] s H ⟨[.ref a], []⟩ [.ref a] [.ref a] _ e0 (bind s (.ref a)) (.cons rfl .nil) hS) fun r z h => ?_
  match r, h with
  | .error e, h => exact (show False from h).elim
  | .ok .next, h => exact (show False from h).elim
  | .ok .brk, h => exact (show False from h).elim
  | .ok .cont, h => exact (show False from h).elim
  | .ok (.ret u), h =>
    obtain ⟨v, H', os, bare, un, ok', rv, rfl⟩ := h
    cases (show u = Value.bool true from rv)
    have grown : ∃ more : Array Value, z.heap.get? P0 = some { cls := .none, data := .fields more } := by
      obtain ⟨more, q⟩ := un.tbls P0 #[] hP
      exact ⟨_, ok' P0 _ q⟩
    have keep : ∀ b o, b ≠ P0 → s.heap.get? b = some o → z.heap.get? b = some o := fun b o nb e => by
      rcases hO b nb with q | ⟨ob, xs, q⟩
      · exact un.keep b o e q (fun m => absurd (show b ∈ ([] : List Addr) from m) List.not_mem_nil) List.not_mem_nil
      · have g1 := (ok b _ q).1
        have g2 := (ok' b _ (un.frzs b ob _ q)).1
        cases e.symm.trans g1
        exact g2
    refine ⟨rfl, ⟨fun b o e => ?_, fun b o e => ?_⟩, os, bare⟩
    · by_cases nb : b = P0
      · subst nb
        cases hT.symm.trans e
        obtain ⟨more, hm⟩ := grown
        exact .inr (.inl ⟨(C.tab hT).isCodeTable, rfl, #[], more, rfl, by rw [Array.empty_append]; exact hm⟩)
      · exact .inl (keep b o nb e)
    · by_cases nb : b = P0
      · subst nb; exact grown.elim fun more hm => ⟨_, hm⟩
      · exact ⟨o, keep b o nb e⟩
theorem law_callGT (KX : K.In s.heap) (hn : s.heap.Ns mainGlobals mg) (hb : s.heap.Ns builtinsNs mb) (hbb : ∀ y : Str, y ≠ "__name__" → mb y = bootBuiltins y) (hl : s.heap.NoLimit) (hg : s.gens = #[])
    (hbm : ∃ (bm : Addr) (ob : Obj), mg "__builtins__" = some (.ref bm) ∧ bm ≠ builtinsNs ∧ s.heap.get? bm = some ob ∧ ob.cls = .type "module" ∧ ob.dict = some builtinsNs ∧ ob.data = .plain)
    (ha : s.heap.get? a = some { cls := .type "list", data := .seq ws.toArray }) (hi : IntsAre ws ns) (hz : ns.length ≤ sizeLine) (hT : s.heap.get? P0 = some { cls := .none, data := .fields #[] }) (nT : K.lookup P0 = none) (C : PySem.W.CodeHd s.heap cc P0)
    (F : ∀ b : Heap, K.In b → b.Ns mainGlobals mg → LamX.TabB b mg cc P0 → RunAt P w K mg b callerA fa fd [x] sp)
    (bind : ∀ (z : Shared) (u : Value), BindsTo z fd ⟨[u], []⟩ [(x, u)]) (hS : ∀ H : Hp, H P0 = some (.tbl #[]) → SqL K H a (ns.map V.int) → sp [.ref a] H (fun v _ => v = .bl true) noE) :
    codeAny (model P w) callerA (.call (.ref fa) ⟨[.ref a], []⟩) (LawEnd s) s := by
  have rv := vals_ints hi
  have aP : a ≠ P0 := fun z => by
    subst z
    exact nomatch congrArg Obj.data (Option.some.inj (hT.symm.trans ha))
  match hk : K.lookup a with
  | some o =>
    cases ha.symm.trans (KX a o hk)
    have e1 : ∀ {b : Addr}, b ≠ P0 → (fun b => if b = P0 then some (HO.tbl #[]) else none : Hp) b = none := fun n => if_neg n
    refine law_coreT KX hn hb hbb hl hg hbm ha hT nT C F bind (fun b => if b = P0 then some (.tbl #[]) else none) (if_pos rfl) (fun b n => .inl (e1 n)) (hS _ (if_pos rfl) (.inr ⟨_, ws.toArray, _, hk, rfl, rfl, rfl, by rw [List.size_toArray, hi.length]; exact hz, by simpa using rv⟩)) (fun b u z => ?_) (fun b z => ?_) fun z => absurd (e1 aP) z
    · by_cases y : b = P0
      · subst y
        cases (if_pos rfl : (if b = b then some (HO.tbl #[]) else none) = _).symm.trans z
        exact hT
      · exact nomatch (e1 y).symm.trans z
    · by_cases y : b = P0
      · exact .inr y
      · exact absurd (e1 y) z
  | none =>
    have e0 : (fun b => if b = a then some (.frz { cls := .type "list", data := .seq ws.toArray } (.lst (ns.map V.int))) else if b = P0 then some (HO.tbl #[]) else none : Hp) a = some (.frz { cls := .type "list", data := .seq ws.toArray } (.lst (ns.map V.int))) := if_pos rfl
    have e1 : (fun b => if b = a then some (.frz { cls := .type "list", data := .seq ws.toArray } (.lst (ns.map V.int))) else if b = P0 then some (HO.tbl #[]) else none : Hp) P0 = some (.tbl #[]) := (if_neg aP.symm).trans (if_pos rfl)
    have e2 : ∀ {b : Addr}, b ≠ a → b ≠ P0 → (fun b => if b = a then some (.frz { cls := .type "list", data := .seq ws.toArray } (.lst (ns.map V.int))) else if b = P0 then some (HO.tbl #[]) else none : Hp) b = none := fun n m => (if_neg n).trans (if_neg m)
    refine law_coreT KX hn hb hbb hl hg hbm ha hT nT C F bind (fun b => if b = a then some (.frz { cls := .type "list", data := .seq ws.toArray } (.lst (ns.map V.int))) else if b = P0 then some (HO.tbl #[]) else none) e1 (fun b n => ?_) (hS _ e1 (.inl (.inr ⟨_, e0⟩))) (fun b u z => ?_) (fun b z => ?_) fun _ => hk
    · by_cases y : b = a
      · subst y; exact .inr ⟨_, _, e0⟩
      · exact .inl (e2 y n)
    · by_cases y : b = a
      · subst y
        cases e0.symm.trans z
        exact ⟨ha, by rw [List.length_map]; exact hz, ws, _, rv, ha⟩
      · by_cases y2 : b = P0
        · subst y2
          cases e1.symm.trans z
          exact hT
        · exact nomatch (e2 y y2).symm.trans z
    · by_cases y : b = a
      · exact .inl y
      · by_cases y2 : b = P0
        · exact .inr y2
        · exact absurd (e2 y y2) z
end
/-- what is known of the law at the head's heap h -/
def LawG (P : Program) (w : World) (K : PySem.W.Frag) (n : Nat) (x : Str) (mg : Str → Option Value) (fa : Addr) (h : Heap) : Prop :=
  ∃ (fd : FuncData) (cc P0 : Addr) (sp : Sp), h.get? P0 = some { cls := .none, data := .fields #[] } ∧ K.lookup P0 = none ∧ PySem.W.CodeHd h cc P0 ∧ (∀ (s : Shared) (u : Value), BindsTo s fd ⟨[u], []⟩ [(x, u)]) ∧
    (∀ (H : Hp) (a : Addr) (ns : List Int), ns.length ≤ n → H P0 = some (.tbl #[]) → SqL K H a (ns.map V.int) → sp [.ref a] H (fun v _ => v = .bl true) noE) ∧
    ∀ base : Heap, K.In base → base.Ns mainGlobals mg → LamX.TabB base mg cc P0 → RunAt P w K mg base callerA fa fd [x] sp
theorem walk_tabG {l : PySem.W.OpenLaw} {n : Nat} {q : Program} {loose : List Str} {XP : (Str → Option Value) → Heap → Prop} {YP : World → Heap → Prop} {d : DefRec} {K : Params → PySem.W.Frag} {x : Str}
    (hn : l.most = some n) (hn2 : n ≤ sizeLine) (hdf : d.params.defaults = []) (hY : ∀ (w : World) (h : Heap), YP w h → (K w.params).In h)
    (F : ∀ (w : World) (mg : Str → Option Value) (fa : Addr) (h : Heap), (∃ loose2 mean mb, Top q loose2 mean mg mb h) → (K w.params).In h → h.Ns mainGlobals mg → mg d.name = some (.ref fa) → LawG l.prog w (K w.params) n x mg fa h) :
    PySem.W.WalkO q loose XP YP l.row.toRowW d [] (fun f vs => PySem.call f vs) := by
  refine Att.attach_callB hn hdf fun w s₀ s₁ mg mb fa o pm cd doc a vs ns G Y ho hd hcd hmg hobj hints hlen hbits hg => ?_
  have KX := hY w _ Y
  obtain ⟨fd, cc, P0, sp, hT, nT, C, hb, hsp, hF⟩ := F w mg fa _ ⟨_, _, _, G.T⟩ KX G.T.g hmg
  exact law_callGT KX G.T.g G.T.b G.T.builtins G.T.nolimit hg G.T.bmain hobj hints (Nat.le_trans hlen hn2) hT nT C hF hb fun H hH hS => hsp H a ns hlen hH hS
end Vf

set_option maxRecDepth 100000
set_option maxHeartbeats 4000000
namespace Vf
open PySem PySem.Spec PyProof.Rows L2 SX
theorem szS2 {n : Nat} (h : n ≤ 100) : n ≤ sizeLine := szB (by omega)
/-- a def of the module with how its arguments bind -/
def Dn (K : PySem.W.Frag) (mg : Str → Option Value) (x : Str) (st : Stmt) (ps : List Str) : Prop := ∃ (f : Addr) (fd : FuncData), C8.Def K mg x st f fd ∧ Binds K fd ps []
theorem useIt {A B : Prop} (h : A) (k : A → B) : B := k h
theorem useT {K : PySem.W.Frag} {h : Heap} {w : World} {mg : Str → Option Value} {B : Prop} (X : K.In h) (T : Tx K w mg) (k : Tx K w mg → B) : B := k T
section
variable {K : PySem.W.Frag} {h : Heap} {mg : Str → Option Value} {x : Str} {st : Stmt} {ps : List Str} {f d : Addr} {od an : Option Addr} {sl : Array (Option Value)} {oc kV dc pm cd ct : Value} {t : Tok} {w : World}
theorem dn_mk (X : K.In h) (G : h.Ns mainGlobals mg) (a : PySem.W.nsIn K mainGlobals x = some (some (.ref f)))
    (l : K.lookup f = some ⟨oc, od, .func (PySem.W.fnOf x x (C8.fnArgs st) (C8.fnBody st) (C8.fnScope st) .none kV dc pm an cd ct), sl⟩) (c : PySem.W.codeIn K cd x = true) (k : PySem.W.keepIn K (.ref f) = true)
    (hb : ∀ (kV doc pm : Value) (an : Option Addr) (cdv ct : Value) (us : List Value), us.length = ps.length → bindArgs (PySem.W.fnOf x x (C8.fnArgs st) (C8.fnBody st) (C8.fnScope st) .none kV doc pm an cdv ct) ⟨us, []⟩ = pure (ps.zip us)) : Dn K mg x st ps := by
  have F : C8.Fun K x x st f (PySem.W.fnOf x x (C8.fnArgs st) (C8.fnBody st) (C8.fnScope st) .none kV dc pm an cd ct) := ⟨oc, od, .none, kV, dc, pm, an, cd, ct, sl, rfl, l, c⟩
  exact ⟨f, _, ⟨F, PySem.W.mg_of X G a, k⟩, F.binds rfl hb⟩
theorem cst_str {n y : Str} {z : List Nat} (X : K.In h) (G : h.Ns mainGlobals mg) (a : PySem.W.nsIn K mainGlobals n = some (some (.str y t))) (e : y = S z) : ∃ u, mg n = some u ∧ RelV (.str (S z)) u :=
  ⟨_, PySem.W.mg_of X G a, ⟨t, by rw [e]⟩⟩
theorem cst_int {n : Str} {i : Int} (X : K.In h) (G : h.Ns mainGlobals mg) (a : PySem.W.nsIn K mainGlobals n = some (some (.int i t))) : ∃ u, mg n = some u ∧ RelV (.int i) u :=
  ⟨_, PySem.W.mg_of X G a, ⟨t, rfl⟩⟩
theorem cst_kd {n : Str} {es : Array DictEntry} {k : Nat} {g : Str → Option V} (X : K.In h) (G : h.Ns mainGlobals mg) (a : PySem.W.nsIn K mainGlobals n = some (some (.ref d))) (l : K.lookup d = some ⟨.type "dict", none, .dict es k, #[]⟩)
    (hk : PySem.W.KeysLit w.params es.toList) (low : (d == sysModules) = false) (hf : ∀ z, RelO (g z) (findBy Value.isStrOf es z)) : ∃ d, (∃ u, mg n = some u ∧ RelV (.ref d) u) ∧ KD K w d g :=
  ⟨d, ⟨_, PySem.W.mg_of X G a, rfl⟩, es, k, l, hk, low, hf⟩
end
/-- a class of errors -/
structure Ec (K : PySem.W.Frag) (mg : Str → Option Value) (n : Str) (C : Addr) : Prop where
  g : mg n = some (.ref C)
  o : OexC K C
  e : ExcC K C
  x : XfC K C
/-! ### the classes -/
/-- the class above all of them -/
def Wc (K : PySem.W.Frag) (W : Addr) : Prop := PySem.W.isClsIn K W = true ∧ PySem.W.typeIn K (.ref W) = some (.type "type")
/-- a class just beneath it -/
def Cb (K : PySem.W.Frag) (C W : Addr) : Prop := PySem.W.typeIn K (.ref C) = some (.type "type") ∧ ∃ cd : ClassData, PySem.W.clsIn K C = some cd ∧ cd.mro = [.ref C, .ref W, .type "ValueError", .type "Exception", .type "BaseException", .type "object"]
def Mt (K : PySem.W.Frag) : Prop := PySem.W.specialIn K (.builtin "object.__class__") "__get__" = some (some (.builtin "getset_descriptor.__get__")) ∧ PySem.W.takesIn K (.builtin "object.__class__") = some true
structure Cc (K : PySem.W.Frag) (mg : Str → Option Value) (n : Str) (C W : Addr) : Prop where
  ec : Ec K mg n C
  b : Cb K C W
structure Kc (K : PySem.W.Frag) (mg : Str → Option Value) (n : Str) (C W : Addr) (fs : List Str) (st : Stmt) : Prop where
  c : Cc K mg n C W
  no : ∀ f ∈ fs, PySem.W.findIn K (.ref C) f = some none
  ne : fs ≠ []
  i : ∃ (fI : Addr) (fd : FuncData) (q : Str), PySem.W.findIn K (.ref C) "__init__" = some (some (.ref fI)) ∧ PySem.W.typeIn K (.ref fI) = some (.type "function") ∧ C8.Fun K "__init__" q st fI fd ∧ Binds K fd (("self" : Str) :: fs) []
structure Kc0 (K : PySem.W.Frag) (mg : Str → Option Value) (n : Str) (C W : Addr) : Prop where
  c : Cc K mg n C W
  x : PySem.W.excIn K C [.type "ValueError", .type "Exception", .type "BaseException", .type "object"] "ValueError.__new__" = true
section
variable {K : PySem.W.Frag} {h : Heap} {mg : Str → Option Value} {w : World}
theorem wc_mk {n : Str} {W : Addr} (X : K.In h) (G : h.Ns mainGlobals mg) (a : PySem.W.nsIn K mainGlobals n = some (some (.ref W))) (c : PySem.W.isClsIn K W = true) (k : PySem.W.typeIn K (.ref W) = some (.type "type")) :
    mg n = some (.ref W) ∧ Wc K W := ⟨PySem.W.mg_of X G a, c, k⟩
theorem mt_mk (_ : K.In h) (n : PySem.W.specialIn K (.builtin "object.__class__") "__get__" = some (some (.builtin "getset_descriptor.__get__"))) (t : PySem.W.takesIn K (.builtin "object.__class__") = some true) : Mt K := ⟨n, t⟩
theorem cl_mk {n : Str} {C W N : Addr} {nm q : Str} {bs : List Value} {sn : List Str} {sub : List Value} {ab : Bool} {col : Option Bool} {dd : Option Addr} {k0 k1 k2 k3 k5 : Option Value} (X : K.In h) (G : h.Ns mainGlobals mg) (_w : mg "WorkshopError" = some (.ref W) ∧ Wc K W) (M : Mt K)
    (a : PySem.W.nsIn K mainGlobals n = some (some (.ref C))) (l : K.lookup C = some (excClassObj nm q C N bs [.ref W, .type "ValueError", .type "Exception", .type "BaseException", .type "object"] true sn sub ab col dd k0 k1 k2 k3 k5 "ValueError.__new__"))
    (s : PySem.W.findIn K (.ref C) "__setattr__" = some (some (.builtin "object.__setattr__"))) (b : PySem.W.subIn K (.ref C) (.type "BaseException") = some true) (y : PySem.W.typeIn K (.ref C) = some (.type "type")) (k : PySem.W.keepIn K (.ref C) = true)
    (g : PySem.W.findIn K (.ref C) "__getattribute__" = some (some (.builtin "BaseException.__getattribute__"))) (hh : PySem.W.findIn K (.ref C) "__getattr__" = some none) (d : PySem.W.hasDictIn K C = true)
    (e : PySem.W.findIn K (.ref C) "__class__" = some (some (.builtin "object.__class__"))) (m : PySem.W.mroIn K C (.type "object") = some true) : Cc K mg n C W :=
  ⟨⟨PySem.W.mg_of X G a, ⟨⟨nm, q, N, bs, _, sn, sub, ab, col, dd, k0, k1, k2, k3, k5, l, rfl⟩, s, b, y, k⟩, ⟨g, hh, b, d, e, M.1, M.2, m⟩, ⟨g, hh, b, d⟩⟩, y, _, (by unfold PySem.W.clsIn; rw [show List.lookup C K = _ from l]), rfl⟩
section
variable {n : Str} {C W fI : Addr} {q f0 f1 f2 : Str} {st : Stmt} {ps : List Str} {oc kV dc pm cd ct : Value} {od an : Option Addr} {sl : Array (Option Value)}
theorem kc_mk {fs : List Str} (c : Cc K mg n C W) (ne : fs ≠ []) (no : ∀ f ∈ fs, PySem.W.findIn K (.ref C) f = some none) (i : PySem.W.findIn K (.ref C) "__init__" = some (some (.ref fI))) (t : PySem.W.typeIn K (.ref fI) = some (.type "function"))
    (l : K.lookup fI = some ⟨oc, od, .func (PySem.W.fnOf "__init__" q (C8.fnArgs st) (C8.fnBody st) (C8.fnScope st) .none kV dc pm an cd ct), sl⟩) (cc : PySem.W.codeIn K cd q = true)
    (hb : ∀ (kV doc pm : Value) (an : Option Addr) (cdv ct : Value) (us : List Value), us.length = (("self" : Str) :: fs).length → bindArgs (PySem.W.fnOf "__init__" q (C8.fnArgs st) (C8.fnBody st) (C8.fnScope st) .none kV doc pm an cdv ct) ⟨us, []⟩ = pure (List.zip (("self" : Str) :: fs) us)) : Kc K mg n C W fs st := by
  have F : C8.Fun K "__init__" q st fI (PySem.W.fnOf "__init__" q (C8.fnArgs st) (C8.fnBody st) (C8.fnScope st) .none kV dc pm an cd ct) := ⟨oc, od, .none, kV, dc, pm, an, cd, ct, sl, rfl, l, cc⟩
  exact ⟨c, no, ne, fI, _, q, i, t, F, F.binds rfl hb⟩
theorem kc_mk1 (c : Cc K mg n C W) (n0 : PySem.W.findIn K (.ref C) f0 = some none) (i : PySem.W.findIn K (.ref C) "__init__" = some (some (.ref fI))) (t : PySem.W.typeIn K (.ref fI) = some (.type "function"))
    (l : K.lookup fI = some ⟨oc, od, .func (PySem.W.fnOf "__init__" q (C8.fnArgs st) (C8.fnBody st) (C8.fnScope st) .none kV dc pm an cd ct), sl⟩) (cc : PySem.W.codeIn K cd q = true)
    (hb : ∀ (kV doc pm : Value) (an : Option Addr) (cdv ct : Value) (us : List Value), us.length = 2 → bindArgs (PySem.W.fnOf "__init__" q (C8.fnArgs st) (C8.fnBody st) (C8.fnScope st) .none kV doc pm an cdv ct) ⟨us, []⟩ = pure (List.zip [("self" : Str), f0] us)) : Kc K mg n C W [f0] st :=
  kc_mk c (fun z => nomatch z) (fun f hf => by rw [List.mem_singleton.mp hf]; exact n0) i t l cc hb
theorem kc_mk2 (c : Cc K mg n C W) (n0 : PySem.W.findIn K (.ref C) f0 = some none) (n1 : PySem.W.findIn K (.ref C) f1 = some none) (i : PySem.W.findIn K (.ref C) "__init__" = some (some (.ref fI))) (t : PySem.W.typeIn K (.ref fI) = some (.type "function"))
    (l : K.lookup fI = some ⟨oc, od, .func (PySem.W.fnOf "__init__" q (C8.fnArgs st) (C8.fnBody st) (C8.fnScope st) .none kV dc pm an cd ct), sl⟩) (cc : PySem.W.codeIn K cd q = true)
    (hb : ∀ (kV doc pm : Value) (an : Option Addr) (cdv ct : Value) (us : List Value), us.length = 3 → bindArgs (PySem.W.fnOf "__init__" q (C8.fnArgs st) (C8.fnBody st) (C8.fnScope st) .none kV doc pm an cdv ct) ⟨us, []⟩ = pure (List.zip [("self" : Str), f0, f1] us)) : Kc K mg n C W [f0, f1] st :=
  kc_mk c (fun z => nomatch z) (fun f hf => by
    simp only [List.mem_cons, List.not_mem_nil, or_false] at hf
    rcases hf with rfl | rfl <;> assumption) i t l cc hb
theorem kc_mk3 (c : Cc K mg n C W) (n0 : PySem.W.findIn K (.ref C) f0 = some none) (n1 : PySem.W.findIn K (.ref C) f1 = some none) (n2 : PySem.W.findIn K (.ref C) f2 = some none) (i : PySem.W.findIn K (.ref C) "__init__" = some (some (.ref fI))) (t : PySem.W.typeIn K (.ref fI) = some (.type "function"))
    (l : K.lookup fI = some ⟨oc, od, .func (PySem.W.fnOf "__init__" q (C8.fnArgs st) (C8.fnBody st) (C8.fnScope st) .none kV dc pm an cd ct), sl⟩) (cc : PySem.W.codeIn K cd q = true)
    (hb : ∀ (kV doc pm : Value) (an : Option Addr) (cdv ct : Value) (us : List Value), us.length = 4 → bindArgs (PySem.W.fnOf "__init__" q (C8.fnArgs st) (C8.fnBody st) (C8.fnScope st) .none kV doc pm an cdv ct) ⟨us, []⟩ = pure (List.zip [("self" : Str), f0, f1, f2] us)) : Kc K mg n C W [f0, f1, f2] st :=
  kc_mk c (fun z => nomatch z) (fun f hf => by
    simp only [List.mem_cons, List.not_mem_nil, or_false] at hf
    rcases hf with rfl | rfl | rfl <;> assumption) i t l cc hb
theorem kc_mk0 (c : Cc K mg n C W) (x : PySem.W.excIn K C [.type "ValueError", .type "Exception", .type "BaseException", .type "object"] "ValueError.__new__" = true) : Kc0 K mg n C W := ⟨c, x⟩
theorem rk_mk {P : Program} {base : Heap} {fs : List Str} (k : Kc K mg n C W fs st)
    (ok : ∀ {f : Addr} {fd : FuncData} {q : Str}, OexC K C → (∀ f ∈ fs, PySem.W.findIn K (.ref C) f = some none) → C8.Fun K "__init__" q st f fd → FnOk P w K mg base C8.CX0 1 f fd (("self" : Str) :: fs) (sp_inx C fs)) : Rk P w K mg base n C fs := by
  obtain ⟨fI, fd, q, i, t, F, b⟩ := k.i
  exact ⟨⟨k.c.ec.g, k.c.ec.o, k.c.ec.x⟩, k.no, fI, fd, _, i, t, ok k.c.ec.o k.no F, b⟩
end
end
/-- an own class -/
structure Oc (K : PySem.W.Frag) (mg : Str → Option Value) (n : Str) (C fI : Addr) : Prop where
  g : mg n = some (.ref C)
  i : C8.InsC K C
  mI : Mk K C fI
section
variable {K : PySem.W.Frag} {h : Heap} {mg : Str → Option Value} {w : World}
theorem oc_mk {n : Str} {C fI : Addr} (X : K.In h) (G : h.Ns mainGlobals mg) (M : Mt K) (a : PySem.W.nsIn K mainGlobals n = some (some (.ref C)))
    (pg : PySem.W.plainGet K C Str.empty = true) (hd : PySem.W.hasDictIn K C = true) (po : PySem.W.plainOver K C = true) (sa : PySem.W.findIn K (.ref C) "__setattr__" = some (some (.builtin "object.__setattr__")))
    (e : PySem.W.findIn K (.ref C) "__class__" = some (some (.builtin "object.__class__"))) (m : PySem.W.mroIn K C (.type "object") = some true)
    (mk : PySem.W.makesIn K C = true) (i : PySem.W.findIn K (.ref C) "__init__" = some (some (.ref fI))) (fi : PySem.W.isFn K (.ref fI) = true) (kp : PySem.W.keepIn K (.ref C) = true) : Oc K mg n C fI where
  g := PySem.W.mg_of X G a
  i := ⟨⟨pg, hd, po, sa⟩, e, M.1, M.2, m, by unfold PySem.W.kitOne; exact if_pos (beq_self_eq_true _)⟩
  mI := ⟨mk, i, fi, kp⟩
theorem ca_mk {CR CD CG fR fD fG : Addr} (R : Oc K mg "Rule" CR fR) (D : Oc K mg "Reader" CD fD) (T : Oc K mg "Tongue" CG fG)
    (r1 : PySem.W.findIn K (.ref CR) "kind" = some none) (r2 : PySem.W.findIn K (.ref CR) "opener" = some none) (r3 : PySem.W.findIn K (.ref CR) "closer" = some none) (r4 : PySem.W.findIn K (.ref CR) "nested" = some none)
    (r5 : PySem.W.findIn K (.ref CR) "escape" = some none) (r6 : PySem.W.findIn K (.ref CR) "doubled" = some none) (r7 : PySem.W.findIn K (.ref CR) "line" = some none)
    (d1 : PySem.W.findIn K (.ref CD) "parts" = some none) (d2 : PySem.W.findIn K (.ref CD) "_marks" = some none)
    (g1 : PySem.W.findIn K (.ref CG) "text" = some none) (g2 : PySem.W.findIn K (.ref CG) "rules" = some none) (g3 : PySem.W.findIn K (.ref CG) "weight" = some none) (g4 : PySem.W.findIn K (.ref CG) "reader" = some none) : Ca K CR CD CG :=
  ⟨R.i, D.i, T.i, r1, r2, r3, r4, r5, r6, r7, d1, d2, g1, g2, g3, g4⟩
theorem eqc_mk {n : Str} {C fI fE N : Addr} {nm q : Str} {bs : List Value} {hdct : Bool} {sn : List Str} {sub : List Value} {ab : Bool} {col : Option Bool} {dd : Option Addr} {k0 k1 k2 k3 k5 : Option Value} {newId : String} (_ : Oc K mg n C fI)
    (l : K.lookup C = some (excClassObj nm q C N bs [.type "object"] hdct sn sub ab col dd k0 k1 k2 k3 k5 newId)) (no : PySem.W.nsOkIn K N = true) (e1 : PySem.W.nsIn K N "__eq__" = some (some (.ref fE))) (e2 : PySem.W.nsIn K N "__ne__" = some none) (e3 : PySem.W.findIn K (.ref C) "__eq__" = some (some (.ref fE))) (fe : PySem.W.isFn K (.ref fE) = true) : OwnC K C fE :=
  ⟨⟨nm, q, N, bs, hdct, sn, sub, ab, col, dd, k0, k1, k2, k3, k5, newId, l, no, e1, e2⟩, e3, fe⟩
theorem cal_mk {n : Str} {C f : Addr} (Q : Oc K mg n C f) (a1 : PySem.W.findIn K (.ref C) "word" = some none) (a2 : PySem.W.findIn K (.ref C) "argument" = some none) (a3 : PySem.W.findIn K (.ref C) "first" = some none) (a4 : PySem.W.findIn K (.ref C) "second" = some none) (a5 : PySem.W.findIn K (.ref C) "negated" = some none) : CaL K C := ⟨Q.i, a1, a2, a3, a4, a5⟩
theorem cas_mk {n : Str} {C f : Addr} (Q : Oc K mg n C f) (a1 : PySem.W.findIn K (.ref C) "word" = some none) (a2 : PySem.W.findIn K (.ref C) "old" = some none) (a3 : PySem.W.findIn K (.ref C) "new" = some none) (a4 : PySem.W.findIn K (.ref C) "kind" = some none) (a5 : PySem.W.findIn K (.ref C) "test" = some none) (a6 : PySem.W.findIn K (.ref C) "guard" = some none) (a7 : PySem.W.findIn K (.ref C) "asks_kinds" = some none) : CaS K C := ⟨Q.i, a1, a2, a3, a4, a5, a6, a7⟩
theorem cac_mk {n : Str} {C f : Addr} (Q : Oc K mg n C f) (a1 : PySem.W.findIn K (.ref C) "steps" = some none) (a2 : PySem.W.findIn K (.ref C) "tongue" = some none) (a3 : PySem.W.findIn K (.ref C) "growth" = some none) : CaC K C := ⟨Q.i, a1, a2, a3⟩
theorem fgn_mk {n : Str} {C f : Addr} (_ : Oc K mg n C f) (k1 : PySem.W.kitOne K (.type "NoneType") (.ref C) = some false) (k2 : PySem.W.kitOne K (.type "str") (.ref C) = some false) (k3 : PySem.W.kitOne K (.type "int") (.ref C) = some false) (k4 : PySem.W.kitOne K (.type "list") (.ref C) = some false)
    (s1 : PySem.W.subIn K (.type "NoneType") (.ref C) = some false) (s2 : PySem.W.subIn K (.type "str") (.ref C) = some false) (s3 : PySem.W.subIn K (.type "int") (.ref C) = some false) (s4 : PySem.W.subIn K (.type "list") (.ref C) = some false) (r : PySem.W.subIn K (.ref C) (.type "NoneType") = some false) : Fgn K C := by
  refine ⟨fun n hn => ?_, r⟩
  simp only [List.mem_cons, List.not_mem_nil, or_false] at hn
  rcases hn with rfl | rfl | rfl | rfl
  · exact ⟨k1, s1⟩
  · exact ⟨k2, s2⟩
  · exact ⟨k3, s3⟩
  · exact ⟨k4, s4⟩
/-- what is known of the kinds of the errors -/
structure Xk (K : PySem.W.Frag) (CM CS CN CB CW : Addr) : Prop where
  e11 : PySem.W.exmOne K (.ref CM) (.ref CM) = some true
  e21 : PySem.W.exmOne K (.ref CS) (.ref CM) = some false
  e22 : PySem.W.exmOne K (.ref CS) (.ref CS) = some true
  e31 : PySem.W.exmOne K (.ref CN) (.ref CM) = some false
  e32 : PySem.W.exmOne K (.ref CN) (.ref CS) = some false
  e33 : PySem.W.exmOne K (.ref CN) (.ref CN) = some true
  e41 : PySem.W.exmOne K (.ref CB) (.ref CM) = some false
  e42 : PySem.W.exmOne K (.ref CB) (.ref CS) = some false
  e43 : PySem.W.exmOne K (.ref CB) (.ref CN) = some false
  e44 : PySem.W.exmOne K (.ref CB) (.ref CB) = some true
  tS : PySem.W.kitOne K (.ref CS) (.ref CW) = some true
  tN : PySem.W.kitOne K (.ref CN) (.ref CW) = some true
  tB : PySem.W.kitOne K (.ref CB) (.ref CW) = some true
theorem xk_mk {CM CS CN CB CW : Addr} (_ : Cc K mg "TooMany" CM CW) (_ : Cc K mg "BadStep" CS CW) (_ : Cc K mg "NoTongue" CN CW) (_ : Cc K mg "BadWord" CB CW) (e11 : PySem.W.exmOne K (.ref CM) (.ref CM) = some true) (e21 : PySem.W.exmOne K (.ref CS) (.ref CM) = some false) (e22 : PySem.W.exmOne K (.ref CS) (.ref CS) = some true)
    (e31 : PySem.W.exmOne K (.ref CN) (.ref CM) = some false) (e32 : PySem.W.exmOne K (.ref CN) (.ref CS) = some false) (e33 : PySem.W.exmOne K (.ref CN) (.ref CN) = some true) (e41 : PySem.W.exmOne K (.ref CB) (.ref CM) = some false) (e42 : PySem.W.exmOne K (.ref CB) (.ref CS) = some false) (e43 : PySem.W.exmOne K (.ref CB) (.ref CN) = some false) (e44 : PySem.W.exmOne K (.ref CB) (.ref CB) = some true)
    (tS : PySem.W.kitOne K (.ref CS) (.ref CW) = some true) (tN : PySem.W.kitOne K (.ref CN) (.ref CW) = some true) (tB : PySem.W.kitOne K (.ref CB) (.ref CW) = some true) : Xk K CM CS CN CB CW := ⟨e11, e21, e22, e31, e32, e33, e41, e42, e43, e44, tS, tN, tB⟩
theorem cst_opt {n : Str} {d : Addr} {xs : List V} {its : Array Value} {sl : Array (Option Value)} {k : Nat} (X : K.In h) (G : h.Ns mainGlobals mg) (a : PySem.W.nsIn K mainGlobals n = some (some (.ref d))) (l : K.lookup d = some ⟨.type "tuple", none, .seq its k, sl⟩) (v : Vals xs its.toList) (z : its.size ≤ 100) :
    ∃ d, (∃ u, mg n = some u ∧ RelV (.ref d) u) ∧ (∀ H : Hp, SqT K H d xs) ∧ ∃ o, K.lookup d = some o ∧ o.cls = .type "tuple" ∧ o.dict = none := ⟨d, ⟨_, PySem.W.mg_of X G a, rfl⟩, fun _ => .inr ⟨_, its, k, l, rfl, rfl, szS2 z, v⟩, _, l, rfl, rfl⟩
theorem fn_mk {m q : Str} {st : Stmt} {ps : List Str} {f : Addr} {od an : Option Addr} {sl : Array (Option Value)} {oc kV dc pm cd ct : Value}
    (l : K.lookup f = some ⟨oc, od, .func (PySem.W.fnOf m q (C8.fnArgs st) (C8.fnBody st) (C8.fnScope st) .none kV dc pm an cd ct), sl⟩) (c : PySem.W.codeIn K cd q = true)
    (hb : ∀ (kV doc pm : Value) (an : Option Addr) (cdv ct : Value) (us : List Value), us.length = ps.length → bindArgs (PySem.W.fnOf m q (C8.fnArgs st) (C8.fnBody st) (C8.fnScope st) .none kV doc pm an cdv ct) ⟨us, []⟩ = pure (ps.zip us)) : ∃ (q : Str) (fd : FuncData), C8.Fun K m q st f fd ∧ Binds K fd ps [] := by
  have F : C8.Fun K m q st f (PySem.W.fnOf m q (C8.fnArgs st) (C8.fnBody st) (C8.fnScope st) .none kV dc pm an cd ct) := ⟨oc, od, .none, kV, dc, pm, an, cd, ct, sl, rfl, l, c⟩
  exact ⟨q, _, F, F.binds rfl hb⟩
theorem fnm_mk {m q : Str} {st : Stmt} {ps : List Str} {C f : Addr} {od an : Option Addr} {sl : Array (Option Value)} {oc kV dc pm cd ct : Value} (_ : PySem.W.findIn K (.ref C) m = some (some (.ref f)))
    (l : K.lookup f = some ⟨oc, od, .func (PySem.W.fnOf m q (C8.fnArgs st) (C8.fnBody st) (C8.fnScope st) .none kV dc pm an cd ct), sl⟩) (c : PySem.W.codeIn K cd q = true)
    (hb : ∀ (kV doc pm : Value) (an : Option Addr) (cdv ct : Value) (us : List Value), us.length = ps.length → bindArgs (PySem.W.fnOf m q (C8.fnArgs st) (C8.fnBody st) (C8.fnScope st) .none kV doc pm an cdv ct) ⟨us, []⟩ = pure (ps.zip us)) : ∃ (q : Str) (fd : FuncData), C8.Fun K m q st f fd ∧ Binds K fd ps [] := fn_mk l c hb
theorem cst_tup {n : Str} {d : Addr} {xs : List V} {its : Array Value} {od : Option Addr} {sl : Array (Option Value)} {k : Nat} (X : K.In h) (G : h.Ns mainGlobals mg) (a : PySem.W.nsIn K mainGlobals n = some (some (.ref d))) (l : K.lookup d = some ⟨.type "tuple", od, .seq its k, sl⟩) (v : Vals xs its.toList) (z : its.size ≤ 100) :
    ∃ d, (∃ u, mg n = some u ∧ RelV (.ref d) u) ∧ ∀ H : Hp, SqT K H d xs := ⟨d, ⟨_, PySem.W.mg_of X G a, rfl⟩, fun _ => .inr ⟨_, its, k, l, rfl, rfl, szS2 z, v⟩⟩
theorem kd2r {k1 k2 : Str} {a b : Addr} {h1 h2 : Int} {t1 t2 : Tok} (z : Str) :
    RelO (if z = k1 then some (V.ref a) else if z = k2 then some (.ref b) else none) (findBy Value.isStrOf #[⟨h1, .str k1 t1, .ref a⟩, ⟨h2, .str k2 t2, .ref b⟩] z) := by
  unfold findBy
  show RelO _ (([(⟨h1, .str k1 t1, .ref a⟩ : DictEntry), ⟨h2, .str k2 t2, .ref b⟩].toArray.find? fun e => Value.isStrOf z e.key).map (·.val))
  rw [List.find?_toArray]
  have q : ∀ (k : Str) (t : Tok), Value.isStrOf z (.str k t) = decide (z = k) := fun k t => by
    show (k == z) = _
    by_cases e : z = k
    · subst e; rw [decide_eq_true rfl]; exact beq_self_eq_true _
    · rw [decide_eq_false e]; exact beq_eq_false_iff_ne.mpr fun y => e y.symm
  by_cases e1 : z = k1
  · rw [if_pos e1, List.find?_cons_of_pos (by show Value.isStrOf z (.str k1 t1) = true; rw [q]; exact decide_eq_true e1)]
    exact rfl
  · rw [if_neg e1, List.find?_cons_of_neg (by show ¬ Value.isStrOf z (.str k1 t1) = true; rw [q, decide_eq_false e1]; exact Bool.false_ne_true)]
    by_cases e2 : z = k2
    · rw [if_pos e2, List.find?_cons_of_pos (by show Value.isStrOf z (.str k2 t2) = true; rw [q]; exact decide_eq_true e2)]
      exact rfl
    · rw [if_neg e2, List.find?_cons_of_neg (by show ¬ Value.isStrOf z (.str k2 t2) = true; rw [q, decide_eq_false e2]; exact Bool.false_ne_true)]
      exact True.intro
theorem cst_bounds {d da db : Addr} {h1 h2 : Int} {t1 t2 t3 t4 t5 t6 : Tok} {n n1 n2 : Nat} {o1 o2 : Option Addr} {s1 s2 : Array (Option Value)} (X : K.In h) (G : h.Ns mainGlobals mg) (a : PySem.W.nsIn K mainGlobals "BOUNDS" = some (some (.ref d)))
    (l : K.lookup d = some ⟨.type "dict", none, .dict #[⟨h1, .str "short" t1, .ref da⟩, ⟨h2, .str "number" t2, .ref db⟩] n, #[]⟩) (hk : PySem.W.KeysLit w.params [⟨h1, .str "short" t1, .ref da⟩, ⟨h2, .str "number" t2, .ref db⟩]) (low : (d == sysModules) = false)
    (la : K.lookup da = some ⟨.type "tuple", o1, .seq #[.int 0 t3, .int 40 t4] n1, s1⟩) (lb : K.lookup db = some ⟨.type "tuple", o2, .seq #[.int 1 t5, .int 6 t6] n2, s2⟩) :
    ∃ d, (∃ u, mg "BOUNDS" = some u ∧ RelV (.ref d) u) ∧ ∃ a b, KD K w d (fun z => if z = "short" then some (.ref a) else if z = "number" then some (.ref b) else none) ∧ (∀ H : Hp, SqT K H a [.int 0, .int 40]) ∧ ∀ H : Hp, SqT K H b [.int 1, .int 6] :=
  ⟨d, ⟨_, PySem.W.mg_of X G a, rfl⟩, da, db, ⟨_, n, l, hk, low, kd2r⟩, fun _ => .inr ⟨_, _, n1, la, rfl, rfl, szS2 (by show 2 ≤ 100; decide), .cons ⟨_, rfl⟩ (.cons ⟨_, rfl⟩ .nil)⟩, fun _ => .inr ⟨_, _, n2, lb, rfl, rfl, szS2 (by show 2 ≤ 100; decide), .cons ⟨_, rfl⟩ (.cons ⟨_, rfl⟩ .nil)⟩⟩
theorem dn_mkD {x : Str} {st : Stmt} {ps : List Str} {f tT : Addr} {od an td : Option Addr} {sl tsl : Array (Option Value)} {oc kV dc pm cd ct tc : Value} {m : Nat} (X : K.In h) (G : h.Ns mainGlobals mg) (a : PySem.W.nsIn K mainGlobals x = some (some (.ref f)))
    (l : K.lookup f = some ⟨oc, od, .func (PySem.W.fnOf x x (C8.fnArgs st) (C8.fnBody st) (C8.fnScope st) (.ref tT) kV dc pm an cd ct), sl⟩) (lT : K.lookup tT = some ⟨tc, td, .seq #[.none] m, tsl⟩) (c : PySem.W.codeIn K cd x = true) (k : PySem.W.keepIn K (.ref f) = true)
    (hb : ∀ (T : Addr) (kV doc pm : Value) (an : Option Addr) (cdv ct : Value) (us its : List Value), us.length = ps.length → its.length = 1 → ∃ k, bindArgs (PySem.W.fnOf x x (C8.fnArgs st) (C8.fnBody st) (C8.fnScope st) (.ref T) kV doc pm an cdv ct) ⟨us, []⟩ = seqItems? (.ref T) >>= k ∧ k (some its.toArray) = pure (ps.zip us)) : Dn K mg x st ps := by
  have D : FunD K x x (C8.fnArgs st) (C8.fnBody st) (C8.fnScope st) [.non] [] f (PySem.W.fnOf x x (C8.fnArgs st) (C8.fnBody st) (C8.fnScope st) (.ref tT) kV dc pm an cd ct) :=
    ⟨⟨oc, od, .ref tT, kV, dc, pm, an, cd, ct, sl, rfl, l, c, .inr ⟨fun z => (nomatch z), tT, _, [.none], m, rfl, lT, rfl, .cons rfl .nil⟩, .inl rfl⟩, k⟩
  obtain ⟨ds, v, b⟩ := FunD.binds1 (ps := ps) D ps.length 1 (fun z => nomatch z) rfl (fun T kV doc pm an cdv ct us its h1 h2 => by
    obtain ⟨k, e1, e2⟩ := hb T kV doc pm an cdv ct us its h1 h2
    refine ⟨k, e1, ?_⟩
    rw [show its.drop 1 = [] from List.drop_eq_nil_of_le (Nat.le_of_eq h2), List.append_nil]
    exact e2)
  cases v
  exact ⟨f, _, ⟨⟨oc, od, .ref tT, kV, dc, pm, an, cd, ct, sl, rfl, l, c⟩, PySem.W.mg_of X G a, k⟩, b⟩
theorem kd3 {k1 k2 k3 v1 v2 v3 : Str} {h1 h2 h3 : Int} {t1 t2 t3 u1 u2 u3 : Tok} (z : Str) :
    RelO (if z = k1 then some (V.str v1) else if z = k2 then some (.str v2) else if z = k3 then some (.str v3) else none) (findBy Value.isStrOf #[⟨h1, .str k1 t1, .str v1 u1⟩, ⟨h2, .str k2 t2, .str v2 u2⟩, ⟨h3, .str k3 t3, .str v3 u3⟩] z) := by
  unfold findBy
  show RelO _ (([(⟨h1, .str k1 t1, .str v1 u1⟩ : DictEntry), ⟨h2, .str k2 t2, .str v2 u2⟩, ⟨h3, .str k3 t3, .str v3 u3⟩].toArray.find? fun e => Value.isStrOf z e.key).map (·.val))
  rw [List.find?_toArray]
  have q : ∀ (k : Str) (t : Tok), Value.isStrOf z (.str k t) = decide (z = k) := fun k t => by
    show (k == z) = _
    by_cases e : z = k
    · subst e; rw [decide_eq_true rfl]; exact beq_self_eq_true _
    · rw [decide_eq_false e]; exact beq_eq_false_iff_ne.mpr fun y => e y.symm
  by_cases e1 : z = k1
  · rw [if_pos e1, List.find?_cons_of_pos (by show Value.isStrOf z (.str k1 t1) = true; rw [q]; exact decide_eq_true e1)]
    exact ⟨u1, rfl⟩
  · rw [if_neg e1, List.find?_cons_of_neg (by show ¬ Value.isStrOf z (.str k1 t1) = true; rw [q, decide_eq_false e1]; exact Bool.false_ne_true)]
    by_cases e2 : z = k2
    · rw [if_pos e2, List.find?_cons_of_pos (by show Value.isStrOf z (.str k2 t2) = true; rw [q]; exact decide_eq_true e2)]
      exact ⟨u2, rfl⟩
    · rw [if_neg e2, List.find?_cons_of_neg (by show ¬ Value.isStrOf z (.str k2 t2) = true; rw [q, decide_eq_false e2]; exact Bool.false_ne_true)]
      by_cases e3 : z = k3
      · rw [if_pos e3, List.find?_cons_of_pos (by show Value.isStrOf z (.str k3 t3) = true; rw [q]; exact decide_eq_true e3)]
        exact ⟨u3, rfl⟩
      · rw [if_neg e3, List.find?_cons_of_neg (by show ¬ Value.isStrOf z (.str k3 t3) = true; rw [q, decide_eq_false e3]; exact Bool.false_ne_true)]
        exact trivial
/-- a def with defaults: called with all, and without the last -/
def Dd (K : PySem.W.Frag) (mg : Str → Option Value) (x : Str) (st : Stmt) (ps : List Str) : Prop := ∃ (f : Addr) (fd : FuncData), C8.Def K mg x st f fd ∧ Binds K fd ps [] ∧ ∃ ds, Vals [V.non] ds ∧ Binds K fd ps ds
theorem dd_mk {x : Str} {st : Stmt} {ps : List Str} {f tT : Addr} {od an td : Option Addr} {sl tsl : Array (Option Value)} {oc kV dc pm cd ct tc : Value} {m : Nat} (X : K.In h) (G : h.Ns mainGlobals mg) (a : PySem.W.nsIn K mainGlobals x = some (some (.ref f)))
    (l : K.lookup f = some ⟨oc, od, .func (PySem.W.fnOf x x (C8.fnArgs st) (C8.fnBody st) (C8.fnScope st) (.ref tT) kV dc pm an cd ct), sl⟩) (lT : K.lookup tT = some ⟨tc, td, .seq #[.none, .none] m, tsl⟩) (c : PySem.W.codeIn K cd x = true) (k : PySem.W.keepIn K (.ref f) = true) (hl : ps.length = 4)
    (hb : ∀ (T : Addr) (kV doc pm : Value) (an : Option Addr) (cdv ct : Value) (us its : List Value), us.length = 4 → its.length = 2 → ∃ k, bindArgs (PySem.W.fnOf x x (C8.fnArgs st) (C8.fnBody st) (C8.fnScope st) (.ref T) kV doc pm an cdv ct) ⟨us, []⟩ = seqItems? (.ref T) >>= k ∧ k (some its.toArray) = pure (ps.zip (us ++ its.drop 2)))
    (hb1 : ∀ (T : Addr) (kV doc pm : Value) (an : Option Addr) (cdv ct : Value) (us its : List Value), us.length = 3 → its.length = 2 → ∃ k, bindArgs (PySem.W.fnOf x x (C8.fnArgs st) (C8.fnBody st) (C8.fnScope st) (.ref T) kV doc pm an cdv ct) ⟨us, []⟩ = seqItems? (.ref T) >>= k ∧ k (some its.toArray) = pure (ps.zip (us ++ its.drop 1))) : Dd K mg x st ps := by
  have D : FunD K x x (C8.fnArgs st) (C8.fnBody st) (C8.fnScope st) [.non, .non] [] f (PySem.W.fnOf x x (C8.fnArgs st) (C8.fnBody st) (C8.fnScope st) (.ref tT) kV dc pm an cd ct) :=
    ⟨⟨oc, od, .ref tT, kV, dc, pm, an, cd, ct, sl, rfl, l, c, .inr ⟨fun z => (nomatch z), tT, _, [.none, .none], m, rfl, lT, rfl, .cons rfl (.cons rfl .nil)⟩, .inl rfl⟩, k⟩
  obtain ⟨ds, v, b⟩ := FunD.binds1 (ps := ps) D 4 2 (fun z => nomatch z) hl.symm hb
  obtain ⟨ds1, v1, b1⟩ := FunD.binds1 (ps := ps) D 3 1 (fun z => nomatch z) hl.symm hb1
  cases v
  exact ⟨f, _, ⟨⟨oc, od, .ref tT, kV, dc, pm, an, cd, ct, sl, rfl, l, c⟩, PySem.W.mg_of X G a, k⟩, b, ds1, v1, b1⟩
/-- an __init__ with one default -/
def Md (K : PySem.W.Frag) (m : Str) (st : Stmt) (ps : List Str) (f : Addr) : Prop := ∃ (q : Str) (fd : FuncData), C8.Fun K m q st f fd ∧ Binds K fd ps [] ∧ ∃ ds, Vals [V.non] ds ∧ Binds K fd ps ds
theorem md_mk {m q : Str} {st : Stmt} {ps : List Str} {C f tT : Addr} {od an td : Option Addr} {sl tsl : Array (Option Value)} {oc kV dc pm cd ct tc : Value} {mm : Nat} (_ : PySem.W.findIn K (.ref C) m = some (some (.ref f)))
    (l : K.lookup f = some ⟨oc, od, .func (PySem.W.fnOf m q (C8.fnArgs st) (C8.fnBody st) (C8.fnScope st) (.ref tT) kV dc pm an cd ct), sl⟩) (lT : K.lookup tT = some ⟨tc, td, .seq #[.none] mm, tsl⟩) (c : PySem.W.codeIn K cd q = true) (k : PySem.W.keepIn K (.ref f) = true) (hl : ps.length = 3)
    (hb : ∀ (T : Addr) (kV doc pm : Value) (an : Option Addr) (cdv ct : Value) (us its : List Value), us.length = 3 → its.length = 1 → ∃ k, bindArgs (PySem.W.fnOf m q (C8.fnArgs st) (C8.fnBody st) (C8.fnScope st) (.ref T) kV doc pm an cdv ct) ⟨us, []⟩ = seqItems? (.ref T) >>= k ∧ k (some its.toArray) = pure (ps.zip (us ++ its.drop 1)))
    (hb1 : ∀ (T : Addr) (kV doc pm : Value) (an : Option Addr) (cdv ct : Value) (us its : List Value), us.length = 2 → its.length = 1 → ∃ k, bindArgs (PySem.W.fnOf m q (C8.fnArgs st) (C8.fnBody st) (C8.fnScope st) (.ref T) kV doc pm an cdv ct) ⟨us, []⟩ = seqItems? (.ref T) >>= k ∧ k (some its.toArray) = pure (ps.zip (us ++ its.drop 0))) : Md K m st ps f := by
  have D : FunD K m q (C8.fnArgs st) (C8.fnBody st) (C8.fnScope st) [.non] [] f (PySem.W.fnOf m q (C8.fnArgs st) (C8.fnBody st) (C8.fnScope st) (.ref tT) kV dc pm an cd ct) :=
    ⟨⟨oc, od, .ref tT, kV, dc, pm, an, cd, ct, sl, rfl, l, c, .inr ⟨fun z => (nomatch z), tT, _, [.none], mm, rfl, lT, rfl, .cons rfl .nil⟩, .inl rfl⟩, k⟩
  obtain ⟨ds, v, b⟩ := FunD.binds1 (ps := ps) D 3 1 (fun z => nomatch z) hl.symm hb
  obtain ⟨ds1, v1, b1⟩ := FunD.binds1 (ps := ps) D 2 0 (fun z => nomatch z) hl.symm hb1
  cases v
  exact ⟨q, _, ⟨oc, od, .ref tT, kV, dc, pm, an, cd, ct, sl, rfl, l, c⟩, b, ds1, v1, b1⟩
/-- how the keywords of a step bind -/
def KwS (K : PySem.W.Frag) (fd : FuncData) (ks : List Str) (gV : List V → List V → List V) : Prop := ∃ g, KBn K fd ["self", "word", "old", "new", "kind", "test", "guard"] 2 ks g gV
def St0 (K : PySem.W.Frag) (f : Addr) : Prop := ∃ (q : Str) (fd : FuncData), C8.Fun K "__init__" q s_Step_init f fd ∧ KwS K fd ["old", "new", "kind", "test"] gv_old_new_kind_test ∧ KwS K fd ["old", "new"] gv_old_new ∧ KwS K fd ["test"] gv_test ∧ KwS K fd ["new", "test"] gv_new_test ∧ KwS K fd ["old", "test"] gv_old_test
theorem vals_drop {vs : List V} {us : List Value} (h : Vals vs us) (n : Nat) : Vals (vs.drop n) (us.drop n) := h.drop n
theorem vals_take {vs : List V} {us : List Value} (h : Vals vs us) : ∀ n : Nat, Vals (vs.take n) (us.take n) := by
  induction h with
  | nil => intro n; rw [List.take_nil, List.take_nil]; exact .nil
  | cons h _ ih =>
    intro n
    cases n with
    | zero => exact .nil
    | succ n => exact .cons h (ih n)
theorem st0_mk {q : Str} {C f tT : Addr} {od an td : Option Addr} {sl tsl : Array (Option Value)} {oc kV dc pm cd ct tc : Value} {mm : Nat} (_ : PySem.W.findIn K (.ref C) "__init__" = some (some (.ref f)))
    (l : K.lookup f = some ⟨oc, od, .func (PySem.W.fnOf "__init__" q (C8.fnArgs s_Step_init) (C8.fnBody s_Step_init) (C8.fnScope s_Step_init) (.ref tT) kV dc pm an cd ct), sl⟩) (lT : K.lookup tT = some ⟨tc, td, .seq #[.none, .none, .none, .none, .none] mm, tsl⟩) (c : PySem.W.codeIn K cd q = true) (k : PySem.W.keepIn K (.ref f) = true) : St0 K f := by
  have D : FunD K "__init__" q (C8.fnArgs s_Step_init) (C8.fnBody s_Step_init) (C8.fnScope s_Step_init) nn5 [] f (PySem.W.fnOf "__init__" q (C8.fnArgs s_Step_init) (C8.fnBody s_Step_init) (C8.fnScope s_Step_init) (.ref tT) kV dc pm an cd ct) :=
    ⟨⟨oc, od, .ref tT, kV, dc, pm, an, cd, ct, sl, rfl, l, c, .inr ⟨fun z => (nomatch z), tT, _, [.none, .none, .none, .none, .none], mm, rfl, lT, rfl, .cons rfl (.cons rfl (.cons rfl (.cons rfl (.cons rfl .nil))))⟩, .inl rfl⟩, k⟩
  have b1 := FunD.kbindsD (ps := ["self", "word", "old", "new", "kind", "test", "guard"]) D 2 ["old", "new", "kind", "test"] (fun us its ws => us ++ ws ++ its.drop 4) (fun z => nomatch z) (fun a b c => (a.append c).append (vals_drop b 4))
    (fun T kV doc pm an cdv ct us its ws h1 h2 h3 => by
      match us, its, ws, h1, h2, h3 with
      | [_, _], [_, _, _, _, _], [_, _, _, _], _, _, _ => exact ⟨_, rfl, rfl⟩)
  have b2 := FunD.kbindsD (ps := ["self", "word", "old", "new", "kind", "test", "guard"]) D 2 ["old", "new"] (fun us its ws => us ++ ws ++ its.drop 2) (fun z => nomatch z) (fun a b c => (a.append c).append (vals_drop b 2))
    (fun T kV doc pm an cdv ct us its ws h1 h2 h3 => by
      match us, its, ws, h1, h2, h3 with
      | [_, _], [_, _, _, _, _], [_, _], _, _, _ => exact ⟨_, rfl, rfl⟩)
  have b3 := FunD.kbindsD (ps := ["self", "word", "old", "new", "kind", "test", "guard"]) D 2 ["test"] (fun us its ws => us ++ its.take 3 ++ ws ++ its.drop 4) (fun z => nomatch z) (fun a b c => ((a.append (vals_take b 3)).append c).append (vals_drop b 4))
    (fun T kV doc pm an cdv ct us its ws h1 h2 h3 => by
      match us, its, ws, h1, h2, h3 with
      | [_, _], [_, _, _, _, _], [_], _, _, _ => exact ⟨_, rfl, rfl⟩)
  have b4 := FunD.kbindsD (ps := ["self", "word", "old", "new", "kind", "test", "guard"]) D 2 ["new", "test"] (fun us its ws => us ++ its.take 1 ++ ws.take 1 ++ (its.drop 2).take 1 ++ ws.drop 1 ++ its.drop 4) (fun z => nomatch z) (fun a b c => ((((a.append (vals_take b 1)).append (vals_take c 1)).append (vals_take (vals_drop b 2) 1)).append (vals_drop c 1)).append (vals_drop b 4))
    (fun T kV doc pm an cdv ct us its ws h1 h2 h3 => by
      match us, its, ws, h1, h2, h3 with
      | [_, _], [_, _, _, _, _], [_, _], _, _, _ => exact ⟨_, rfl, rfl⟩)
  have b5 := FunD.kbindsD (ps := ["self", "word", "old", "new", "kind", "test", "guard"]) D 2 ["old", "test"] (fun us its ws => us ++ ws.take 1 ++ (its.drop 1).take 2 ++ ws.drop 1 ++ its.drop 4) (fun z => nomatch z) (fun a b c => (((a.append (vals_take c 1)).append (vals_take (vals_drop b 1) 2)).append (vals_drop c 1)).append (vals_drop b 4))
    (fun T kV doc pm an cdv ct us its ws h1 h2 h3 => by
      match us, its, ws, h1, h2, h3 with
      | [_, _], [_, _, _, _, _], [_, _], _, _, _ => exact ⟨_, rfl, rfl⟩)
  obtain ⟨i1, c1⟩ := b1
  obtain ⟨i2, c2⟩ := b2
  obtain ⟨i3, c3⟩ := b3
  obtain ⟨i4, c4⟩ := b4
  obtain ⟨i5, c5⟩ := b5
  exact ⟨q, _, ⟨oc, od, .ref tT, kV, dc, pm, an, cd, ct, sl, rfl, l, c⟩, ⟨_, c1⟩, ⟨_, c2⟩, ⟨_, c3⟩, ⟨_, c4⟩, ⟨_, c5⟩⟩
theorem fc_mk {x : Str} {st : Stmt} {ps : List Str} {f cc : Addr} {od an : Option Addr} {sl : Array (Option Value)} {oc kV dc pm ct : Value} (X : K.In h) (G : h.Ns mainGlobals mg) (a : PySem.W.nsIn K mainGlobals x = some (some (.ref f)))
    (l : K.lookup f = some ⟨oc, od, .func (PySem.W.fnOf x x (C8.fnArgs st) (C8.fnBody st) (C8.fnScope st) .none kV dc pm an (.ref cc) ct), sl⟩) (c : PySem.W.codeIn K (.ref cc) x = true) (k : PySem.W.keepIn K (.ref f) = true)
    (hb : ∀ (kV doc pm : Value) (an : Option Addr) (cdv ct : Value) (us : List Value), us.length = ps.length → bindArgs (PySem.W.fnOf x x (C8.fnArgs st) (C8.fnBody st) (C8.fnScope st) .none kV doc pm an cdv ct) ⟨us, []⟩ = pure (ps.zip us)) : ∃ (f : Addr) (fd : FuncData), FunC K mg x st f fd cc ∧ Binds K fd ps [] := by
  have F : C8.Fun K x x st f (PySem.W.fnOf x x (C8.fnArgs st) (C8.fnBody st) (C8.fnScope st) .none kV dc pm an (.ref cc) ct) := ⟨oc, od, .none, kV, dc, pm, an, _, ct, sl, rfl, l, c⟩
  exact ⟨f, _, ⟨⟨oc, od, .none, kV, dc, pm, an, ct, sl, rfl, l, c⟩, PySem.W.mg_of X G a, k⟩, F.binds rfl hb⟩
theorem tab_mk {x : Str} {f cc P0 : Addr} {fd : FuncData} {oc oc' : Value} {od od' : Option Addr} {sl sl' : Array (Option Value)} {vs : Array Value} (_ : K.In h) (a : PySem.W.nsIn K mainGlobals x = some (some (.ref f))) (l : K.lookup f = some ⟨oc, od, .func fd, sl⟩) (hc : fd.code = .ref cc)
    (l2 : K.lookup cc = some ⟨oc', od', .fields vs, sl'⟩) (hv : (vs[11]? : Option Value) = some (.ref P0)) : PySem.W.tabIn K x = some (cc, P0) := by
  unfold PySem.W.tabIn
  rw [a]
  dsimp only
  rw [l]
  dsimp only
  rw [hc]
  dsimp only
  rw [l2]
  dsimp only
  rw [hv]
theorem law_end28 {P : Program} {fa f cc P0 : Addr} {od an : Option Addr} {sl : Array (Option Value)} {oc kV dc pm cd ct : Value} (X : K.In h) (G : h.Ns mainGlobals mg) (hfa : mg "law" = some (.ref fa)) (tb : PySem.W.CodeHd h cc P0 ∧ h.get? P0 = some (PySem.W.tabObj #[])) (nP : K.lookup P0 = none)
    (a : PySem.W.nsIn K mainGlobals "law" = some (some (.ref f))) (lk : K.lookup f = some ⟨oc, od, .func (PySem.W.fnOf "law" "law" (C8.fnArgs s_law) (C8.fnBody s_law) (C8.fnScope s_law) .none kV dc pm an cd ct), sl⟩) (c : PySem.W.codeIn K cd "law" = true) (k : PySem.W.keepIn K (.ref f) = true)
    (ok : ∀ (base : Heap) (fd : FuncData), LamX.TabB base mg cc P0 → C8.Def K mg "law" s_law f fd → RunAt P w K mg base callerA f fd ["_law_script"] (sp_law K P0)) : LawG P w K 63 "_law_script" mg fa h := by
  have e := hfa.symm.trans (PySem.W.mg_of X G a)
  cases e
  exact ⟨_, cc, P0, sp_law K P0, tb.2, nP, tb.1, fun s v => .of_eq rfl, fun H a ns hl hH hS => ⟨a, ns, rfl, hS, hl, hH, fun _ => rfl⟩, fun base _ _ hT => ok base _ hT ⟨⟨oc, od, .none, kV, dc, pm, an, cd, ct, sl, rfl, lk, c⟩, PySem.W.mg_of X G a, k⟩⟩
end

end Vf

set_option maxRecDepth 100000
set_option maxHeartbeats 4000000
namespace Vf
open PySem PySem.Spec PyProof.Rows L2 SX
section
variable {P : Program} {w : World} {K : PySem.W.Frag} {mg : Str → Option Value} {base : Heap}
abbrev t1 : Str := Str.ofString "remark # to line"
theorem t_ok {s : String} (h : (decide ((Str.ofString s).length ≤ 1000) && (fw (lnsOf (Str.ofString s))).isNone && decide ((lnsOf (Str.ofString s)).length ≤ 100) && (lnsOf (Str.ofString s)).all fun l => decide (l.length ≤ 1000) && (TL.tl l).all fun c => decide (c ≠ 10) && decide (c < 1000)) = true) : TxOk (Str.ofString s) := by
  simp only [Bool.and_eq_true, decide_eq_true_eq, List.all_eq_true, Option.isNone_iff_eq_none] at h
  obtain ⟨⟨⟨h1, h2⟩, h3⟩, h4⟩ := h
  exact ⟨by omega, ⟨h3, fun l hl => ⟨(h4 l hl).1, fun c hc => (h4 l hl).2 c hc⟩⟩, h2⟩
theorem ok1 : TxOk t1 := t_ok (by decide +kernel)
theorem ok2 {v : V} (h : v ∈ ([.str (Str.ofString "remark / to line"), .str (Str.ofString "quote # to line"), .str (Str.ofString "")] : List V)) : ∃ t, v = .str t ∧ TxOk t ∧ t1 ≠ t := by
  rcases List.mem_cons.mp h with rfl | h
  · exact ⟨_, rfl, t_ok (by decide +kernel), by decide +kernel⟩
  rcases List.mem_cons.mp h with rfl | h
  · exact ⟨_, rfl, t_ok (by decide +kernel), by decide +kernel⟩
  rcases List.mem_cons.mp h with rfl | h
  · exact ⟨_, rfl, t_ok (by decide +kernel), by decide +kernel⟩
  cases h
theorem s1_ok : OkS ⟨"replace", some [97], some [98], true, none⟩ := .ex (.inl rfl) ⟨⟨by decide +kernel, by decide⟩, by decide⟩ ⟨by decide +kernel, by decide⟩ (fun z => absurd rfl z) (fun _ => rfl) (fun _ z => nomatch z)
theorem s2_ok : OkS ⟨"first", some [98], some [], false, none⟩ := .ex (.inr (.inl rfl)) ⟨⟨by decide +kernel, by decide⟩, by decide⟩ ⟨by decide +kernel, by decide⟩ (fun z => absurd rfl z) (fun z => nomatch z) (fun _ z => nomatch z)
abbrev S1 : Stp := ⟨"replace", some [97], some [98], true, none⟩
abbrev S2 : Stp := ⟨"first", some [98], some [], false, none⟩
theorem d12 : dueF [.st S1, .st S2] .tongue = .fine := by kernel_rfl
theorem d2 : dueF [.st S2] .tongue = .fine := by kernel_rfl
theorem d2' : dueF [.st S2] .no = .fine := by kernel_rfl
theorem d1 : dueF [.st S1] .tongue = .fine := by kernel_rfl
theorem ok_areTonguesRight {f : Addr} {fd : FuncData} {CR CD CG CL CS CC CT CBadWord CBadStep CTooMany CNoTongue P0 : Addr} (F : C8.Def K mg "_law_are_tongues_right" s_areTonguesRight f fd) (b : Binds K fd ["_law_pen_here"] []) (T : Tx K w mg) (CX_Tongue : MakX P w K mg base 7 "Tongue" CG (sp_Tongue_init CG CT P0)) (CX_Script : MakX P w K mg base 5 "Script" CC (sp_Script_init K CL CS CG CC CBadStep CTooMany CNoTongue CBadWord)) (CD_Script : MakXD P w K mg base 5 "Script" CC (sp_Script_init K CL CS CG CC CBadStep CTooMany CNoTongue CBadWord) [.non]) (CD_replaceStep : CalXD P w K mg base 5 "replace_step" (sp_replaceStep CL CS) [.non]) (EO_Tongue : EqO P w K mg base 1 CG (EqG CG)) (EO_Script : EqO P w K mg base 6 CC (EqC CL CS CG CC)) (A0 : Ca K CR CD CG) (AL : CaL K CL) (AS : CaS K CS) (AC : CaC K CC) (FL : Fgn K CL) (FS : Fgn K CS) (FC : Fgn K CC) (FG : Fgn K CG) (C_pick : C8.Cal P w K mg base 2 "_law_pick" sp_pick []) (C_firstStep : CalX P w K mg base 5 "first_step" (sp_firstStep CL CS)) : C8.Cal P w K mg base 9 "_law_are_tongues_right" (sp_areTonguesRight P0) [] := by
  refine C8.cal0 F b .nil sc_areTonguesRight (fun vs H Q E h => ?_) (fun cdv A outer s H vs Q E hr h => ?_)
  · obtain ⟨p, c, m, rfl, _⟩ := h; rfl
  have hu := hu_of hr
  refine ⟨_, (pss_cons (ps_par (i := 1) (j := 2) (by rfl) sc_areTonguesRight.nd rfl rfl (by decide) rfl rfl (pa_cons pe_str (pa_cons (C8.pe_c C_pick hr (by decide) rfl (pa_cons (pv 0) (pa_cons (pe_lst (pa_cons pe_str (pa_cons pe_str (pa_cons pe_str pa_nil)))) pa_nil))) pa_nil)) (by rfl))
      (pss_cons (ps_set (i := 3) sc_areTonguesRight.nd rfl (Or.inl rfl) (pe_lst (pa_cons (pe_cxD0 CD_replaceStep hr (by decide) rfl (pa_cons pe_str (pa_cons pe_str (pa_cons pe_str pa_nil)))) (pa_cons (pe_cx0 C_firstStep hr (by decide) rfl (pa_cons pe_str (pa_cons pe_str pa_nil))) pa_nil))))
      (pss_cons (ps_par (i := 4) (j := 5) (by rfl) sc_areTonguesRight.nd rfl rfl (by decide) rfl rfl (pa_cons (pe_mkX0 CX_Script hr (by decide) rfl (pa_cons (pv 3) (pa_cons (pe_mkX0 CX_Tongue hr (by decide) rfl (pa_cons (pv 1) pa_nil)) pa_nil))) (pa_cons (pe_mkX0 CX_Script hr (by decide) rfl (pa_cons (pv 3) (pa_cons (pe_mkX0 CX_Tongue hr (by decide) rfl (pa_cons (pv 1) pa_nil)) pa_nil))) pa_nil)) (by rfl))
      (C8.pss_cut (ps_if (PW.pt (pw_or (pt_cmpR (op_neO EO_Script hr (by decide)) (pv 4) (pv 5) (nomark _)) (pw_or (pt_cmpR (op_eqO EO_Script hr (by decide)) (pv 4) (pe_mkX0 CX_Script hr (by decide) rfl (pa_cons (pv 3) (pa_cons (pe_mkX0 CX_Tongue hr (by decide) rfl (pa_cons (pv 2) pa_nil)) pa_nil))) (nomark _)) (pw_or1 (pt_cmpR (op_neO EO_Tongue hr (by decide)) (pe_fld (pv 4) rfl) (pe_mkX0 CX_Tongue hr (by decide) rfl (pa_cons (pv 1) pa_nil)) (nomark _))))))
      (pss_one (ps_ret pe_bl))
      pss_nil)
      (pss_cons (ps_if (pt_cmpR (op_eqO EO_Script hr (by decide)) (pe_mkX0 CX_Script hr (by decide) rfl (pa_cons (pe_slice sl_list (pv 3) (po_some pe_int) po_none) (pa_cons (pe_mkX0 CX_Tongue hr (by decide) rfl (pa_cons (pv 1) pa_nil)) pa_nil))) (pe_mkXD0 CD_Script hr (by decide) rfl (pa_cons (pe_slice sl_list (pv 3) (po_some pe_int) po_none) pa_nil)) (nomark _))
      (pss_one (ps_ret pe_bl))
      pss_nil)
      (pss_cons (ps_expr (pe_bm0 PySem.F.plainAttrs_list PySem.F.slot_list_pop PySem.F.type_list_pop mt_pop (pv 3)))
      (pss_one (ps_ret (pe_and (pe_cmpR op_eq (pe_callB call_len (by rfl) T.z_len PySem.boot_len (pa_cons (pe_fld (pv 4) rfl) pa_nil)) pe_int (nomark _)) (pe_and (pe_cmpR (op_eqO EO_Script hr (by decide)) (pv 4) (pv 5) (nomark _)) (pe_one (pe_cmpR (op_neO EO_Script hr (by decide)) (pv 4) (pe_mkX0 CX_Script hr (by decide) rfl (pa_cons (pv 3) (pa_cons (pe_mkX0 CX_Tongue hr (by decide) rfl (pa_cons (pv 1) pa_nil)) pa_nil))) (nomark _))))))))))))), ?_⟩

  obtain ⟨p, c, m, rfl, hp, hm, tb, q⟩ := h
  refine ⟨_, rfl, szB (show 3 ≤ 1000000 by decide), fun L0 hL0 => ?_⟩
  refine ⟨p, c, m, _, rfl, hp.new hL0, by omega, .inr ⟨L0, _, rfl, upd_same, by decide, by decide, fun H1 v k1 hp1 hv => ?_⟩⟩
  have tb1 := tabs_ks (tb.ext (same1 hL0 _)) k1
  obtain ⟨t2, rfl, hk2, ne2⟩ := ok2 hv
  refine ⟨_, _, rfl, ?_⟩
  clear hv k1 hp1 hL0 tb hp
  -- the steps
  refine ⟨[97], [98], true, none, .non, ?_, s1_ok, rfl, fun H2 a1 sm2 st1 => ?_⟩
  · rw [show Str.ofString "a" = S [97] by decide +kernel, show Str.ofString "b" = S [98] by decide +kernel]; rfl
  refine ⟨[98], [], ?_, ⟨⟨by decide +kernel, by decide⟩, by decide⟩, ⟨by decide +kernel, by decide⟩, fun H3 a2 sm3 st2 => ⟨szB (show 2 ≤ 1000000 by decide), fun L hL => ?_⟩⟩
  · rw [show Str.ofString "" = S [] by decide +kernel, show Str.ofString "b" = S [98] by decide +kernel]; rfl
  have n1 : StN CS H3 a1 S1 := StN.of (st1.sm sm3) rfl s1_ok
  have n2 : StN CS H3 a2 S2 := StN.of st2 rfl s2_ok
  have tb4 : LamX.Tabs (T0 P0) (upd H3 L (.lst [.ref a1, .ref a2])) := tb1.ext fun b o z => same1 hL _ _ _ (sm3 _ _ (sm2 _ _ z))
  have m1 : StN CS (upd H3 L (.lst [.ref a1, .ref a2])) a1 S1 := n1.ex (extN_same (same1 hL _))
  have m2 : StN CS (upd H3 L (.lst [.ref a1, .ref a2])) a2 S2 := n2.ex (extN_same (same1 hL _))
  have hL4 : (upd H3 L (.lst [.ref a1, .ref a2])) L = some (.lst [.ref a1, .ref a2]) := upd_same
  generalize upd H3 L (.lst [.ref a1, .ref a2]) = H4 at tb4 m1 m2 hL4 ⊢
  clear st1 st2 sm2 sm3 n1 n2 tb1 hL
  have al : AllN CS H4 [.ref a1, .ref a2] [S1, S2] := .cons m1 (.cons m2 .nil)
  -- two scripts
  refine ⟨_, rfl, _, rfl, fun g1 dg1 hg1 hdg1 neg1 => mk_tongue ok1 tb4 hg1 hdg1 neg1 fun H5 e5 tb5 tg1 => ⟨rfl, ?_⟩⟩
  refine fun x1 dx1 hx1 hdx1 nex1 => mk_script (.inl (e5 _ _ hL4 fun _ z => nomatch z)) (al.ex e5).its (by decide) (rdT tg1) d12 hx1 hdx1 nex1 fun H6 s6 sc1 => ⟨rfl, ?_⟩
  have e46 : LamX.ExtN H4 H6 := e5.trans (extN_same s6)
  refine ⟨_, rfl, _, rfl, fun g2 dg2 hg2 hdg2 neg2 => mk_tongue ok1 (tb5.ext s6) hg2 hdg2 neg2 fun H7 e7 tb7 tg2 => ⟨rfl, ?_⟩⟩
  have e47 := e46.trans e7
  refine fun x2 dx2 hx2 hdx2 nex2 => mk_script (.inl (e47 _ _ hL4 fun _ z => nomatch z)) (al.ex e47).its (by decide) (rdT tg2) d12 hx2 hdx2 nex2 fun H8 s8 sc2 => ⟨rfl, ?_⟩
  have e48 : LamX.ExtN H4 H8 := e47.trans (extN_same s8)
  have sc1' := sc1.ex (e7.trans (extN_same s8))
  have tg1' : TgAt CG H8 g1 t1 := tg1.ex ((extN_same s6).trans (e7.trans (extN_same s8)))
  have tg2' : TgAt CG H8 g2 t1 := tg2.ex (extN_same s8)
  have tb8 := tb7.ext s8
  refine ⟨_, _, rfl, ?_⟩
  have sts : ∀ {H' : Hp}, LamX.ExtN H8 H' → StsP CL CS H' [.ref a1, .ref a2] := fun e => (al.ex (e48.trans e)).sts
  refine ⟨fun σ' H' => σ' = [some (.ref p), some (.str t1), some (.str t2), some (.ref L), some (.ref x1), some (.ref x2)] ∧ LamX.ExtN H8 H' ∧ LamX.Tabs (T0 P0) H', ?_, ?_⟩
  · refine ⟨_, rfl, _, rfl, sc_eqI sc1' sc2 (sts (LamX.ExtN.refl _)) (sts (LamX.ExtN.refl _)) (.inl ⟨rfl, .inr (.inl ⟨g1, g2, t1, t1, rfl, rfl, tg1', tg2', (decide_eq_true rfl).symm⟩)⟩) fun H9 s9 => ?_⟩
    have e9 : LamX.ExtN H8 H9 := extN_same s9
    refine ⟨_, rfl, ifF ?_⟩
    have e49 := e48.trans e9
    refine ⟨_, rfl, _, rfl, _, rfl, fun g3 dg3 hg3 hdg3 neg3 => mk_tongue hk2 (tb8.ext s9) hg3 hdg3 neg3 fun H10 e10 tb10 tg3 => ⟨rfl, ?_⟩⟩
    have e410 := e49.trans e10
    refine fun x3 dx3 hx3 hdx3 nex3 => mk_script (.inl (e410 _ _ hL4 fun _ z => nomatch z)) (al.ex e410).its (by decide) (rdT tg3) d12 hx3 hdx3 nex3 fun H11 s11 sc3 => ⟨rfl, ?_⟩
    have e811 := e9.trans (e10.trans (extN_same s11))
    refine .inr (.inl (sc_eqI (sc1'.ex e811) sc3 (sts e811) (sts e811) (.inl ⟨rfl, .inr (.inl ⟨g1, g3, t1, t2, rfl, rfl, tg1'.ex e811, tg3.ex (extN_same s11), (decide_eq_false ne2).symm⟩)⟩) fun H12 s12 => ?_))
    refine ⟨_, rfl, ifF ?_⟩
    have e812 := e811.trans (extN_same s12)
    obtain ⟨dxa, sta, ya1, ya2⟩ := sc1'.ex e812
    refine ⟨_, rfl, x1, CC, dxa, _, _, rfl, ya1, AC.i.cl, AC.a2, rfl, ?_⟩
    refine ⟨_, rfl, fun g4 dg4 hg4 hdg4 neg4 => mk_tongue ok1 ((tb10.ext s11).ext s12) hg4 hdg4 neg4 fun H13 e13 tb13 tg4 => ⟨rfl, ?_⟩⟩
    refine tg_eqI (tg1'.ex (e812.trans e13)) tg4 fun H14 s14 => ?_
    refine ⟨_, rfl, ifn (by rw [decide_eq_true rfl]; rfl) ?_⟩
    exact ⟨rfl, e812.trans (e13.trans (extN_same s14)), tb13.ext s14⟩
  rintro σ' H9 ⟨rfl, e89, tb9⟩
  have e49 := e48.trans e89
  have m2' := m2.ex e49
  refine ⟨_, rfl, _, rfl, ?_⟩
  dsimp only [tNoPart]
  refine sl1 (e49 _ _ hL4 fun _ z => nomatch z) fun M H10 s10 hM => ?_
  refine ⟨_, rfl, fun g3 dg3 hg3 hdg3 neg3 => mk_tongue ok1 (tb9.ext s10) hg3 hdg3 neg3 fun H11 e11 tb11 tg3 => ⟨rfl, ?_⟩⟩
  have e4b := e49.trans ((extN_same s10).trans e11)
  have al2 : ∀ {H' : Hp}, LamX.ExtN H4 H' → AllN CS H' [.ref a2] [S2] := fun e => .cons (m2.ex e) .nil
  refine fun x3 dx3 hx3 hdx3 nex3 => mk_script (.inl (e11 _ _ hM fun _ z => nomatch z)) (al2 e4b).its (by decide) (rdT tg3) d2 hx3 hdx3 nex3 fun H12 s12 sc3 => ⟨rfl, ?_⟩
  have e4c := e4b.trans (extN_same s12)
  refine ⟨_, rfl, _, rfl, ?_⟩
  dsimp only [tNoPart]
  refine sl1 (e4c _ _ hL4 fun _ z => nomatch z) fun M2 H13 s13 hM2 => ?_
  have e4d := e4c.trans (extN_same s13)
  refine fun x4 dx4 hx4 hdx4 nex4 => mk_script (.inl hM2) (al2 e4d).its (by decide) rdN d2' hx4 hdx4 nex4 fun H14 s14 sc4 => ⟨rfl, ?_⟩
  have e4e := e4d.trans (extN_same s14)
  have ece : LamX.ExtN H12 H14 := (extN_same s13).trans (extN_same s14)
  refine .inr (.inl (sc_eqI (sc3.ex ece) sc4 (al2 e4e).sts (al2 e4e).sts (.inl ⟨rfl, .inr (.inr ⟨⟨g3, t1, rfl, tg3.ex ((extN_same s12).trans ece)⟩, rfl, rfl⟩)⟩) fun H15 s15 => ?_))
  refine ⟨_, rfl, ifF ?_⟩
  have e8f : LamX.ExtN H8 H15 := e89.trans ((extN_same s10).trans (e11.trans ((extN_same s12).trans (ece.trans (extN_same s15)))))
  have tb15 := ((((tb11.ext s12).ext s13).ext s14).ext s15)
  clear s10 hM e11 tb11 tg3 al2 sc3 sc4 e4b e4c e4d e4e ece s12 s13 s14 s15 hM2 m2' e49 tb9 e89
  have e4f := e48.trans e8f
  have hL15 : H15 L = some (.lst [.ref a1, .ref a2]) := e4f _ _ hL4 fun _ z => nomatch z
  have sc1f := (sc1'.ex e8f).up (ys := [.ref a1, .ref a2].dropLast) hL15
  have sc2f := (sc2.ex e8f).up (ys := [.ref a1, .ref a2].dropLast) hL15
  have tg1f := (tg1'.ex e8f).up (ys := [.ref a1, .ref a2].dropLast) hL15
  have tg2f := (tg2'.ex e8f).up (ys := [.ref a1, .ref a2].dropLast) hL15
  have m1f := (m1.ex e4f).up (ys := [.ref a1, .ref a2].dropLast) hL15
  have m2f := (m2.ex e4f).up (ys := [.ref a1, .ref a2].dropLast) hL15
  have tbf := tabs_upd (o := .lst [.ref a1, .ref a2].dropLast) tb15 hL15 (fun _ z => nomatch z) fun _ _ z => nomatch z
  refine ⟨_, rfl, .inl ⟨rfl, _, SqL.of hL15⟩, L, _, _, rfl, rfl, hL15, rfl, ?_⟩
  have hLf : (upd H15 L (.lst [.ref a1, .ref a2].dropLast)) L = some (.lst [.ref a1]) := upd_same
  generalize upd H15 L (.lst [.ref a1, .ref a2].dropLast) = HF at sc1f sc2f tg1f tg2f m1f m2f tbf hLf ⊢
  have alf : StsP CL CS HF [.ref a1, .ref a2] := (AllN.cons m1f (.cons m2f .nil)).sts
  obtain ⟨dxa, sta, ya1, ya2⟩ := id sc1f
  refine ⟨_, rfl, x1, CC, dxa, _, _, rfl, ya1, AC.i.cl, AC.a1, rfl, _, 2, rfl, .inr ⟨_, SqT.of ya2, rfl⟩, rfl, _, rfl, ify (decide_eq_true rfl) ?_⟩
  refine ⟨_, rfl, _, rfl, .inr (.inl (sc_eqI sc1f sc2f alf alf (.inl ⟨rfl, .inr (.inl ⟨g1, g2, t1, t1, rfl, rfl, tg1f, tg2f, (decide_eq_true rfl).symm⟩)⟩) fun H20 s20 => ?_))⟩
  refine ⟨_, rfl, ifT ?_⟩
  refine ⟨_, rfl, _, rfl, _, rfl, fun g5 dg5 hg5 hdg5 neg5 => mk_tongue ok1 (tbf.ext s20) hg5 hdg5 neg5 fun H21 e21 tb21 tg5 => ⟨rfl, ?_⟩⟩
  have ef : LamX.ExtN HF H21 := (extN_same s20).trans e21
  have al5 : AllN CS H21 [.ref a1] [S1] := .cons (m1f.ex ef) .nil
  refine fun x5 dx5 hx5 hdx5 nex5 => mk_script (.inl (ef _ _ hLf fun _ z => nomatch z)) al5.its (by decide) (rdT tg5) d1 hx5 hdx5 nex5 fun H22 s22 sc5 => ⟨rfl, ?_⟩
  have eg := ef.trans (extN_same s22)
  refine sc_eqI (sc1f.ex eg) sc5 (AllN.cons (m1f.ex eg) (.cons (m2f.ex eg) .nil)).sts (al5.ex (extN_same s22)).sts (.inr ⟨(fun z => absurd (show (2 : Nat) = 1 from z) (by decide)), rfl⟩) fun H23 s23 => q H23

end
end Vf

set_option maxRecDepth 100000
set_option maxHeartbeats 4000000
namespace Vf
open PySem PySem.Spec PyProof.Rows L2 SX
section
variable {P : Program} {w : World} {K : PySem.W.Frag} {mg : Str → Option Value} {base : Heap}
theorem ok_canStand {f : Addr} {fd : FuncData} (F : C8.Def K mg "can_stand" s_canStand f fd) (b : Binds K fd ["ahead", "word", "openers"] []) (T : Tx K w mg) (C_isMark : C8.Cal P w K mg base 1 "is_mark" sp_isMark []) (C_optionCanStand : C8.Cal P w K mg base 1 "option_can_stand" (sp_optionCanStand K) []) : C8.Cal P w K mg base 2 "can_stand" (sp_canStand K) [] := by
  refine C8.cal0 F b .nil sc_canStand (fun vs H Q E h => ?_) (fun cdv A outer s H vs Q E hr h => ?_)
  · obtain ⟨a, o, ws, os, w, rfl, _⟩ := h; rfl
  have hu := hu_of hr
  refine ⟨_, (pss_cons (ps_if (pt_not (pt_truth (pv 0) (by intro _; rfl)))
      (pss_one (ps_ret (pe_cmpR op_in_seq (pv 1) (C8.pe_gc rfl (Classical.choose_spec T.g_KINDS).1) rfl)))
      pss_nil)
      (pss_cons (ps_if (pt_cmpR op_eq (pe_callB call_len (by rfl) T.z_len PySem.boot_len (pa_cons (pv 0) pa_nil)) pe_int (nomark _))
      (pss_one (ps_ret (pe_and (C8.pe_c C_isMark hr (by decide) rfl (pa_cons (pv 1) pa_nil)) (pe_one (pe_cmpR op_notIn_seq (pv 1) (pv 2) rfl)))))
      pss_nil)
      (pss_cons (ps_if (pt_cmpR op_eq (pe_callB call_len (by rfl) T.z_len PySem.boot_len (pa_cons (pv 0) pa_nil)) pe_int (nomark _))
      (pss_one (ps_ret (pe_cmpR op_eq (pv 1) pe_str (nomark _))))
      pss_nil)
      (pss_cons (ps_if (pt_cmpR op_eq (pe_callB call_len (by rfl) T.z_len PySem.boot_len (pa_cons (pv 0) pa_nil)) pe_int (nomark _))
      (pss_one (ps_ret (pe_or (pe_cmpR op_eq (pv 1) pe_str (nomark _)) (pe_one (C8.pe_c C_isMark hr (by decide) rfl (pa_cons (pv 1) pa_nil))))))
      pss_nil)
      (pss_cons (ps_if (pt_cmpR op_eq (pe_ix ix_list (pv 0) (pe_un un_neg pe_int) (fun _ _ => rfl)) pe_str (nomark _))
      (pss_one (ps_ret (pe_cmpR op_in_seq (pv 1) (C8.pe_gc rfl (Classical.choose_spec T.g_DEPTHS).1) rfl)))
      pss_nil)
      (pss_cons (ps_if (pt_cmpR op_eq (pe_ix ix_list (pv 0) (pe_un un_neg pe_int) (fun _ _ => rfl)) pe_str (nomark _))
      (pss_one (ps_ret (pe_and (C8.pe_c C_isMark hr (by decide) rfl (pa_cons (pv 1) pa_nil)) (pe_one (pe_cmpR op_eq (pe_callB call_len (by rfl) T.z_len PySem.boot_len (pa_cons (pv 1) pa_nil)) pe_int (nomark _))))))
      pss_nil)
      (pss_one (ps_ret (C8.pe_c C_optionCanStand hr (by decide) rfl (pa_cons (pv 0) (pa_cons (pv 1) pa_nil))))))))))), ?_⟩

  obtain ⟨a, o, ws, os, w, rfl, ha, ho, vd, hz, hw, q⟩ := h
  have q0 := q H (same_refl H)
  have hl : ws.length = (ws.map V.str).length := (List.length_map ..).symm
  refine ⟨_, rfl, _, truL ha, ?_⟩
  by_cases c0 : ws.length = 0
  · have e : ws = [] := List.length_eq_zero_iff.mp c0
    subst e
    refine ify rfl ?_
    refine ⟨_, rfl, _, _, rfl, .inr ((Classical.choose_spec T.g_KINDS).2 H), rfl, rfl, ?_⟩
    rw [if_neg Bool.false_ne_true, show ([V.str "remark", V.str "quote"] : List V) = (["remark", "quote"] : List Str).map V.str from rfl, inV_strs]
    exact q0
  have cb : canB ws w os = if ws.length = 1 then isMk w && !(decide (w ∈ os)) else if ws.length = 2 then decide (w = "to") else if ws.length = 3 then decide (w = "line") || isMk w else optB ws w := by
    unfold canB; rw [if_neg c0]
  rw [cb] at q0
  refine ifn (by cases ws with | nil => exact absurd rfl c0 | cons x r => rfl) ?_
  refine ⟨_, rfl, _, ws.length, rfl, .inl ⟨_, ha, hl⟩, rfl, _, rfl, ?_⟩
  rw [show V.int 1 = V.int ((1 : Nat) : Int) from rfl, dN]
  by_cases c1 : ws.length = 1
  · rw [if_pos c1] at q0
    refine ify (decide_eq_true c1) ⟨_, rfl, w, rfl, hw, fun H1 s1 => ⟨_, rfl, ?_⟩⟩
    have q1 := q H1 s1
    rw [cb, if_pos c1] at q1
    cases cm : isMk w with
    | false => rw [cm, Bool.false_and] at q1; exact ifF q1
    | true =>
      rw [cm, Bool.true_and] at q1
      refine ifT ⟨_, rfl, _, rfl, o, _, rfl, .inl (sqL_same s1 ho), rfl, flat_strs _, ?_⟩
      rw [if_pos rfl, inV_strs]
      exact q1
  rw [if_neg c1] at q0
  refine ifn (decide_eq_false c1) ⟨_, rfl, _, ws.length, rfl, .inl ⟨_, ha, hl⟩, rfl, _, rfl, ?_⟩
  rw [show V.int 2 = V.int ((2 : Nat) : Int) from rfl, dN]
  by_cases c2 : ws.length = 2
  · rw [if_pos c2] at q0
    refine ify (decide_eq_true c2) ⟨_, rfl, rfl, ?_⟩
    rw [dS]
    exact q0
  rw [if_neg c2] at q0
  refine ifn (decide_eq_false c2) ⟨_, rfl, _, ws.length, rfl, .inl ⟨_, ha, hl⟩, rfl, _, rfl, ?_⟩
  rw [show V.int 3 = V.int ((3 : Nat) : Int) from rfl, dN]
  by_cases c3 : ws.length = 3
  · rw [if_pos c3] at q0
    refine ify (decide_eq_true c3) ⟨_, rfl, rfl, _, rfl, ?_⟩
    rw [dS]
    by_cases c4 : w = "line"
    · rw [decide_eq_true c4, Bool.true_or] at q0
      exact ify (decide_eq_true c4) q0
    · refine ifn (decide_eq_false c4) ⟨_, rfl, w, rfl, hw, fun H1 s1 => ?_⟩
      have q1 := q H1 s1
      rw [cb, if_neg c1, if_neg c2, if_pos c3, decide_eq_false c4, Bool.false_or] at q1
      exact q1
  rw [if_neg c3] at q0
  have h4 : 4 ≤ ws.length := by omega
  have cbo : canB ws w os = optB ws w := by rw [cb, if_neg c1, if_neg c2, if_neg c3]
  obtain ⟨u, gl, lst⟩ := at_lastS (ws := ws) (by intro z; exact c0 (by rw [z]; rfl))
  refine ifn (decide_eq_false c3) ⟨_, rfl, _, rfl, a, _, _, _, rfl, rfl, ha, lst, rfl, _, rfl, ?_⟩
  rw [dS]
  have l1 := vd_last vd h4 (.inl rfl)
  have l2 := vd_last vd h4 (.inr rfl)
  rw [gl] at l1 l2
  by_cases c4 : u = "nested"
  · refine ify (decide_eq_true c4) ?_
    refine ⟨_, rfl, _, _, rfl, .inr ((Classical.choose_spec T.g_DEPTHS).2 H), rfl, rfl, ?_⟩
    rw [if_neg Bool.false_ne_true, show ([V.str "2", V.str "3", V.str "4"] : List V) = (["2", "3", "4"] : List Str).map V.str from rfl, inV_strs]
    unfold optB at q0
    rw [if_pos (l1.mp (by rw [c4]))] at q0
    exact q0
  have n1 : (ws.drop 4).getLast? ≠ some ("nested" : Str) := fun z => c4 (Option.some.inj (l1.mpr z))
  refine ifn (decide_eq_false c4) ⟨_, rfl, _, rfl, a, _, _, _, rfl, rfl, ha, lst, rfl, _, rfl, ?_⟩
  rw [dS]
  by_cases c5 : u = "escape"
  · refine ify (decide_eq_true c5) ⟨_, rfl, w, rfl, hw, fun H1 s1 => ⟨_, rfl, ?_⟩⟩
    have q1 := q H1 s1
    rw [cbo] at q1
    unfold optB at q1
    rw [if_neg n1, if_pos (l2.mp (by rw [c5])), Bool.and_comm] at q1
    cases cm : isMk w with
    | false => rw [cm, Bool.false_and] at q1; exact ifF q1
    | true =>
      rw [cm, Bool.true_and] at q1
      refine ifT ⟨_, rfl, _, w.length, rfl, ⟨szB (by omega), rfl⟩, rfl, ?_⟩
      rw [dN]
      exact q1
  have n2 : (ws.drop 4).getLast? ≠ some ("escape" : Str) := fun z => c5 (Option.some.inj (l2.mpr z))
  refine ifn (decide_eq_false c5) ⟨_, rfl, _, rfl, a, ws, w, rfl, ha, h4, hz, vd_first vd, n1, n2, hw, fun H1 s1 => ?_⟩
  have q1 := q H1 s1
  rw [cbo] at q1
  exact q1

end
end Vf

set_option maxRecDepth 100000
set_option maxHeartbeats 4000000
namespace Vf
open PySem PySem.Spec PyProof.Rows L2 SX
section
variable {P : Program} {w : World} {K : PySem.W.Frag} {mg : Str → Option Value} {base : Heap}
theorem ok_checkExchange {f : Addr} {fd : FuncData} {CT CBadWord CBadNumber CBadStep CTooMany CNoTongue CW : Addr} (F : C8.Def K mg "check_exchange" s_checkExchange f fd) (b : Binds K fd ["old", "new"] []) (T : Tx K w mg) (ES : Es P w K mg base CT CBadWord CBadNumber CBadStep CTooMany CNoTongue CW) (C_isWord : C8.Cal P w K mg base 2 "is_word" (sp_isWord K) []) (C_isPatch : C8.Cal P w K mg base 2 "is_patch" (sp_isPatch K) []) : CalX P w K mg base 4 "check_exchange" sp_checkExchange := by
  refine calX F b sc_checkExchange (fun vs H Q E h => ?_) (fun cdv A outer s H vs Q E hr h => ?_)
  · obtain ⟨o, n, rfl, _⟩ := h; rfl
  have hu := hu_of hr
  refine ⟨_, (pss_cons (ps_if (pt_not (pt_val (C8.pe_c C_isWord hr (by decide) rfl (pa_cons (pv 0) pa_nil))))
      (pss_one (ps_rx ES.r_BadWord hr (by decide) rfl rfl (takes_of rfl rfl rfl rfl) (pa_cons pe_str pa_nil)))
      pss_nil)
      (pss_one (ps_if (pt_not (pt_val (C8.pe_c C_isPatch hr (by decide) rfl (pa_cons (pv 1) pa_nil))))
      (pss_one (ps_rx ES.r_BadWord hr (by decide) rfl rfl (takes_of rfl rfl rfl rfl) (pa_cons pe_str pa_nil)))
      pss_nil))), ?_⟩

  obtain ⟨o, n, rfl, ho, hn, q⟩ := h
  refine ⟨_, rfl, o, rfl, ho, fun H1 s1 => ⟨_, rfl, ifF ?_⟩⟩
  have l6 := hn.2
  refine ⟨_, rfl, _, rfl, .inl ⟨n, rfl, by omega, fun H2 s2 => ⟨_, rfl, ?_⟩⟩⟩
  rw [hn.1, decide_eq_true hn.2]
  exact ifF (q _ fun b o z => s2 _ _ (s1 _ _ z))

end
end Vf

set_option maxRecDepth 100000
set_option maxHeartbeats 4000000
namespace Vf
open PySem PySem.Spec PyProof.Rows L2 SX
section
variable {P : Program} {w : World} {K : PySem.W.Frag} {mg : Str → Option Value} {base : Heap}
theorem LsT.sq {K : PySem.W.Frag} {H : Hp} {L : Addr} {vs : List V} (h : LsT K H L vs) : SqL K H L vs ∨ SqT K H L vs := h.imp SqL.of SqT.of
theorem ok_checkSteps {f : Addr} {fd : FuncData} {CR CD CG CL CS CC CT CBadWord CBadNumber CBadStep CTooMany CNoTongue CW : Addr} (F : C8.Def K mg "check_steps" s_checkSteps f fd) (b : Binds K fd ["steps", "tongue"] []) (T : Tx K w mg) (ES : Es P w K mg base CT CBadWord CBadNumber CBadStep CTooMany CNoTongue CW) (G_Tongue : mg "Tongue" = some (.ref CG)) (G_Step : mg "Step" = some (.ref CS)) (A0 : Ca K CR CD CG) (AL : CaL K CL) (AS : CaS K CS) (AC : CaC K CC) (FL : Fgn K CL) (FS : Fgn K CS) (FC : Fgn K CC) (FG : Fgn K CG) : CalX P w K mg base 3 "check_steps" (sp_checkSteps K CL CS CG CBadStep CTooMany CNoTongue CBadWord) := by
  refine calX F b sc_checkSteps (fun vs H Q E h => ?_) (fun cdv A outer s H vs Q E hr h => ?_)
  · obtain ⟨L, tv, xs, its, r, rfl, _⟩ := h; rfl
  have hu := hu_of hr
  refine ⟨_, (pss_cons (ps_if (pt_cmpR op_gt (pe_callB call_len (by rfl) T.z_len PySem.boot_len (pa_cons (pv 0) pa_nil)) (C8.pe_gc rfl T.g_MOST_STEPS) (nomark _))
      (pss_one (ps_rx ES.r_TooMany hr (by decide) rfl rfl (takes_of rfl rfl rfl rfl) (pa_cons pe_str (pa_cons (pe_callB call_len (by rfl) T.z_len PySem.boot_len (pa_cons (pv 0) pa_nil)) (pa_cons (C8.pe_gc rfl T.g_MOST_STEPS) pa_nil)))))
      pss_nil)
      (pss_cons (ps_for (passes_of rfl) rfl (pi_or (pi_enum (by rfl) T.z_enumerate (pa_cons (pv 0) pa_nil)) (pi_enumT (by rfl) T.z_enumerate (pa_cons (pv 0) pa_nil))) (pg_tup rfl (pgs_cons (pg_name (i := 2) sc_checkSteps.nd rfl (Or.inl rfl)) (pgs_cons (pg_name (i := 3) sc_checkSteps.nd rfl (Or.inl rfl)) pgs_nil)))
      (pss_one (ps_if (pt_not (pt_val (pe_callB call_isi (by rfl) T.z_isinstance (by decide +kernel) (pa_cons (pv 3) (pa_cons (pe_cls (G_Step) rfl) pa_nil)))))
      (pss_one (ps_rx ES.r_BadStep hr (by decide) rfl rfl (takes_of rfl rfl rfl rfl) (pa_cons (pv 2) pa_nil)))
      pss_nil)))
      (C8.pss_cut (ps_if (PW.pt (pw_and (pt_cmpR op_notN (pv 1) pe_non (nomark _)) (pw_and1 (pt_not (pt_val (pe_callB call_isi (by rfl) T.z_isinstance (by decide +kernel) (pa_cons (pv 1) (pa_cons (pe_cls (G_Tongue) rfl) pa_nil))))))))
      (pss_one (ps_rx ES.r_BadWord hr (by decide) rfl rfl (takes_of rfl rfl rfl rfl) (pa_cons pe_str pa_nil)))
      pss_nil)
      (pss_one (ps_for (passes_of rfl) rfl (pi_or (pi_enum (by rfl) T.z_enumerate (pa_cons (pv 0) pa_nil)) (pi_enumT (by rfl) T.z_enumerate (pa_cons (pv 0) pa_nil))) (pg_tup rfl (pgs_cons (pg_name (i := 2) sc_checkSteps.nd rfl (Or.inl rfl)) (pgs_cons (pg_name (i := 3) sc_checkSteps.nd rfl (Or.inl rfl)) pgs_nil)))
      (pss_one (ps_if (PW.pt (pw_and (pt_cmpR op_isN (pv 1) pe_non (nomark _)) (pw_and1 (pt_val (pe_fld (pv 3) rfl)))))
      (pss_one (ps_rx ES.r_NoTongue hr (by decide) rfl rfl (takes_of rfl rfl rfl rfl) (pa_cons (pv 2) pa_nil)))
      pss_nil))))))), ?_⟩

  obtain ⟨L, tv, xs, its, r, rfl, hL, hi, hl, hr0, q1, q2⟩ := h
  obtain ⟨l1, ha⟩ := id hi
  refine ⟨_, rfl, _, xs.length, rfl, hL.sq.imp (fun z => ⟨_, z, rfl⟩) (fun z => ⟨_, z, rfl⟩), _, _, rfl, rfl, _, rfl, ?_⟩
  by_cases c1 : 6 < its.length
  · have e1 : dueC its r = .steps its.length := by unfold dueC; rw [if_pos c1]
    rw [e1] at q2
    refine ify (decide_eq_true (by omega)) ?_
    exact ⟨_, rfl, _, xs.length, rfl, hL.sq.imp (fun z => ⟨_, z, rfl⟩) (fun z => ⟨_, z, rfl⟩), rfl, fun d H2 hd h2 s2 => q2 (fun z => nomatch z) d H2 s2 (by rw [← l1]; exact h2)⟩
  refine ifn (decide_eq_false (by omega)) ?_
  rcases hL with hL | hL
  · refine .inl ⟨_, rfl, L, xs, rfl, SqL.of hL, ?_⟩
    refine for_it walk_enum (fun i σ H' => Same H H' ∧ ∃ v2 v3 : Option V, σ = [some (.ref L), some tv, v2, v3] ∧ ∀ y ∈ its.take i, y.isNo = false) ?_ (fun i σ H' _ z => SqL.of (z.1 _ _ hL)) ?_ ?_
    · exact ⟨fun _ _ z => z, none, none, rfl, fun y hy => nomatch hy⟩
    · rintro i x σ H1 H2 hi ⟨s1, v2, v3, rfl, hno⟩ ⟨T', x', y', rfl, hT, rfl, ex, ey⟩
      cases ex
      dsimp only at ey
      have hil : i < its.length := by omega
      have hq : its[i]? = some its[i] := List.getElem?_eq_getElem hil
      obtain ⟨hv, ok⟩ := ha i _ _ ey hq
      generalize its[i] = it at hq hv ok
      have s2 := same_new s1 hT (.tup [.int ((i : Nat) : Int), y'])
      refine ⟨T', _, rfl, SqT.of upd_same, rfl, _, _, rfl, _, _, rfl, rfl, ?_⟩
      cases it with
      | st s =>
        obtain ⟨a, rfl, dx, tw, ea, _⟩ := hv
        refine ⟨_, rfl, _, _, _, _, true, rfl, .own CS, .base (.ins (s2 _ _ ea) AS.i.cl AS.i.ha AS.i.hn AS.i.htk AS.i.hm), AS.i.me, _, rfl, ifF ?_⟩
        exact ⟨s2, _, _, rfl, take_f hno hq rfl⟩
      | no u =>
        obtain rfl : y' = u := hv
        have e1 : dueC its r = .step i := by
          unfold dueC
          rw [if_neg c1, fst_hit (k := 0) hq rfl hno, Nat.zero_add]
        rw [e1] at q2
        have fin : ∀ d H3, H3 d = some (.xd (([Str.ofString "number"] : List Str).zip [V.int ((i : Nat) : Int)]).reverse) → Same (upd H1 T' (.tup [.int ((i : Nat) : Int), y'])) H3 → E (.ref CBadStep) (some d) H3 := fun d H3 h3 s3 => q2 (fun z => nomatch z) d H3 (fun b o z => s3 _ _ (s2 _ _ z)) h3
        rcases ok with rfl | rfl | rfl
        · exact ⟨_, rfl, _, _, _, _, false, rfl, .own CS, .base .non, (FS.k "NoneType" (by simp)).1, _, rfl, ifT ⟨_, rfl, rfl, fun d H3 hd h3 s3 => fin d H3 h3 s3⟩⟩
        · exact ⟨_, rfl, _, _, _, _, false, rfl, .own CS, .base (.str _), (FS.k "str" (by simp)).1, _, rfl, ifT ⟨_, rfl, rfl, fun d H3 hd h3 s3 => fin d H3 h3 s3⟩⟩
        · exact ⟨_, rfl, _, _, _, _, false, rfl, .own CS, .base (.int _), (FS.k "int" (by simp)).1, _, rfl, ifT ⟨_, rfl, rfl, fun d H3 hd h3 s3 => fin d H3 h3 s3⟩⟩
    rintro σ H1 ⟨s1, v2, v3, rfl, hno⟩
    have hno : ∀ y ∈ its, y.isNo = false := fun y hy => hno y (by rw [List.take_of_length_le (by omega)]; exact hy)
    have fn := fst_none (k := 0) hno
    refine ⟨fun σ' H' => Same H H' ∧ ∃ v2 v3 : Option V, σ' = [some (.ref L), some tv, v2, v3] ∧ r ≠ .bad, ?_, ?_⟩
    · cases r with
      | no =>
        obtain rfl : tv = .non := hr0
        exact ⟨_, rfl, rfl, _, rfl, ifn (by rw [decide_eq_true rfl]; rfl) ⟨s1, _, _, rfl, fun z => nomatch z⟩⟩
      | tongue =>
        obtain ⟨g, t, rfl, dg, rt, wi, rd, e1, _⟩ := hr0
        refine ⟨_, rfl, rfl, _, rfl, ify (by rw [decide_eq_false (fun z => nomatch z)]; rfl) ⟨_, rfl, _, _, _, _, true, rfl, .own CG, .base (.ins (s1 _ _ e1) A0.iG.cl A0.iG.ha A0.iG.hn A0.iG.htk A0.iG.hm), A0.iG.me, _, rfl, ifF ?_⟩⟩
        exact ⟨s1, _, _, rfl, fun z => nomatch z⟩
      | bad =>
        have e1 : dueC its .bad = .word := by
          unfold dueC
          rw [if_neg c1, fn]
        rw [e1] at q2
        have fin : ∀ d H3, H3 d = some (.xd (([Str.ofString "what"] : List Str).zip [V.str (Str.ofString "tongue")]).reverse) → Same H1 H3 → E (.ref CBadWord) (some d) H3 := fun d H3 h3 s3 => q2 (fun z => nomatch z) d H3 (fun b o z => s3 _ _ (s1 _ _ z)) h3
        rcases hr0 with rfl | rfl | ⟨b, zs, rfl, hb⟩
        · exact ⟨_, rfl, rfl, _, rfl, ify (by rw [decide_eq_false (fun z => nomatch z)]; rfl) ⟨_, rfl, _, _, _, _, false, rfl, .own CG, .base (.str _), (FG.k "str" (by simp)).1, _, rfl, ifT ⟨rfl, fun d H3 hd h3 s3 => fin d H3 h3 s3⟩⟩⟩
        · exact ⟨_, rfl, rfl, _, rfl, ify (by rw [decide_eq_false (fun z => nomatch z)]; rfl) ⟨_, rfl, _, _, _, _, false, rfl, .own CG, .base (.int _), (FG.k "int" (by simp)).1, _, rfl, ifT ⟨rfl, fun d H3 hd h3 s3 => fin d H3 h3 s3⟩⟩⟩
        · exact ⟨_, rfl, rfl, _, rfl, ify (by rw [decide_eq_false (fun z => nomatch z)]; rfl) ⟨_, rfl, _, _, _, _, false, rfl, .own CG, .base (.lst (s1 _ _ hb)), (FG.k "list" (by simp)).1, _, rfl, ifT ⟨rfl, fun d H3 hd h3 s3 => fin d H3 h3 s3⟩⟩⟩
    clear s1
    rintro σ' H1 ⟨s1, v2, v3, rfl, hnb⟩
    refine .inl ⟨_, rfl, L, xs, rfl, SqL.of (s1 _ _ hL), ?_⟩
    refine for_it walk_enum (fun i σ H' => Same H H' ∧ ∃ v2 v3 : Option V, σ = [some (.ref L), some tv, v2, v3] ∧ (r = .no → ∀ y ∈ its.take i, y.asks = false)) ?_ (fun i σ H' _ z => SqL.of (z.1 _ _ hL)) ?_ ?_
    · exact ⟨s1, v2, v3, rfl, fun _ y hy => nomatch hy⟩
    · rintro i x σ H1 H2 hi ⟨s1, v2, v3, rfl, hno2⟩ ⟨T', x', y', rfl, hT, rfl, ex, ey⟩
      cases ex
      dsimp only at ey
      have hil : i < its.length := by omega
      have hq : its[i]? = some its[i] := List.getElem?_eq_getElem hil
      obtain ⟨hv, ok⟩ := ha i _ _ ey hq
      have nn := hno its[i] (List.getElem_mem hil)
      generalize its[i] = it at hq hv ok nn
      have s2 := same_new s1 hT (.tup [.int ((i : Nat) : Int), y'])
      refine ⟨T', _, rfl, SqT.of upd_same, rfl, _, _, rfl, _, _, rfl, rfl, ?_⟩
      cases it with
      | no u => cases nn
      | st s =>
        obtain ⟨a, rfl, dx, tw, ea, _⟩ := hv
        cases r with
        | bad => exact absurd rfl hnb
        | tongue =>
          obtain ⟨g, t, rfl, _⟩ := hr0
          exact ⟨_, rfl, rfl, _, rfl, ifn (decide_eq_false (fun z => nomatch z)) ⟨s2, _, _, rfl, fun z => nomatch z⟩⟩
        | no =>
          obtain rfl : tv = .non := hr0
          refine ⟨_, rfl, rfl, _, rfl, ify (decide_eq_true rfl) ⟨_, rfl, a, CS, dx, _, _, rfl, s2 _ _ ea, AS.i.cl, AS.a7, rfl, _, rfl, ?_⟩⟩
          cases hk : s.k with
          | false => exact ifF ⟨s2, _, _, rfl, fun _ => take_f (hno2 rfl) hq hk⟩
          | true =>
            have e1 : dueC its .no = .tongue i := by
              unfold dueC
              rw [if_neg c1, fn]
              dsimp only
              rw [fst_hit (k := 0) hq hk (hno2 rfl), Nat.zero_add]
            rw [e1] at q2
            refine ifT ⟨_, rfl, rfl, fun d H3 hd h3 s3 => q2 (fun z => nomatch z) d H3 (fun b o z => s3 _ _ (s2 _ _ z)) h3⟩
    rintro σ H2 ⟨s2, v2, v3, rfl, hno2⟩
    have e1 : dueC its r = .fine := by
      unfold dueC
      rw [if_neg c1, fn]
      cases r with
      | bad => exact absurd rfl hnb
      | tongue => rfl
      | no =>
        dsimp only
        rw [fst_none (k := 0) fun y hy => hno2 rfl y (by rw [List.take_of_length_le (by omega)]; exact hy)]
    exact q1 e1 H2 s2
  · refine .inr ⟨_, rfl, L, xs, rfl, SqT.of hL, ?_⟩
    refine for_it walk_enumT (fun i σ H' => Same H H' ∧ ∃ v2 v3 : Option V, σ = [some (.ref L), some tv, v2, v3] ∧ ∀ y ∈ its.take i, y.isNo = false) ?_ (fun i σ H' _ z => SqT.of (z.1 _ _ hL)) ?_ ?_
    · exact ⟨fun _ _ z => z, none, none, rfl, fun y hy => nomatch hy⟩
    · rintro i x σ H1 H2 hi ⟨s1, v2, v3, rfl, hno⟩ ⟨T', x', y', rfl, hT, rfl, ex, ey⟩
      cases ex
      dsimp only at ey
      have hil : i < its.length := by omega
      have hq : its[i]? = some its[i] := List.getElem?_eq_getElem hil
      obtain ⟨hv, ok⟩ := ha i _ _ ey hq
      generalize its[i] = it at hq hv ok
      have s2 := same_new s1 hT (.tup [.int ((i : Nat) : Int), y'])
      refine ⟨T', _, rfl, SqT.of upd_same, rfl, _, _, rfl, _, _, rfl, rfl, ?_⟩
      cases it with
      | st s =>
        obtain ⟨a, rfl, dx, tw, ea, _⟩ := hv
        refine ⟨_, rfl, _, _, _, _, true, rfl, .own CS, .base (.ins (s2 _ _ ea) AS.i.cl AS.i.ha AS.i.hn AS.i.htk AS.i.hm), AS.i.me, _, rfl, ifF ?_⟩
        exact ⟨s2, _, _, rfl, take_f hno hq rfl⟩
      | no u =>
        obtain rfl : y' = u := hv
        have e1 : dueC its r = .step i := by
          unfold dueC
          rw [if_neg c1, fst_hit (k := 0) hq rfl hno, Nat.zero_add]
        rw [e1] at q2
        have fin : ∀ d H3, H3 d = some (.xd (([Str.ofString "number"] : List Str).zip [V.int ((i : Nat) : Int)]).reverse) → Same (upd H1 T' (.tup [.int ((i : Nat) : Int), y'])) H3 → E (.ref CBadStep) (some d) H3 := fun d H3 h3 s3 => q2 (fun z => nomatch z) d H3 (fun b o z => s3 _ _ (s2 _ _ z)) h3
        rcases ok with rfl | rfl | rfl
        · exact ⟨_, rfl, _, _, _, _, false, rfl, .own CS, .base .non, (FS.k "NoneType" (by simp)).1, _, rfl, ifT ⟨_, rfl, rfl, fun d H3 hd h3 s3 => fin d H3 h3 s3⟩⟩
        · exact ⟨_, rfl, _, _, _, _, false, rfl, .own CS, .base (.str _), (FS.k "str" (by simp)).1, _, rfl, ifT ⟨_, rfl, rfl, fun d H3 hd h3 s3 => fin d H3 h3 s3⟩⟩
        · exact ⟨_, rfl, _, _, _, _, false, rfl, .own CS, .base (.int _), (FS.k "int" (by simp)).1, _, rfl, ifT ⟨_, rfl, rfl, fun d H3 hd h3 s3 => fin d H3 h3 s3⟩⟩
    rintro σ H1 ⟨s1, v2, v3, rfl, hno⟩
    have hno : ∀ y ∈ its, y.isNo = false := fun y hy => hno y (by rw [List.take_of_length_le (by omega)]; exact hy)
    have fn := fst_none (k := 0) hno
    refine ⟨fun σ' H' => Same H H' ∧ ∃ v2 v3 : Option V, σ' = [some (.ref L), some tv, v2, v3] ∧ r ≠ .bad, ?_, ?_⟩
    · cases r with
      | no =>
        obtain rfl : tv = .non := hr0
        exact ⟨_, rfl, rfl, _, rfl, ifn (by rw [decide_eq_true rfl]; rfl) ⟨s1, _, _, rfl, fun z => nomatch z⟩⟩
      | tongue =>
        obtain ⟨g, t, rfl, dg, rt, wi, rd, e1, _⟩ := hr0
        refine ⟨_, rfl, rfl, _, rfl, ify (by rw [decide_eq_false (fun z => nomatch z)]; rfl) ⟨_, rfl, _, _, _, _, true, rfl, .own CG, .base (.ins (s1 _ _ e1) A0.iG.cl A0.iG.ha A0.iG.hn A0.iG.htk A0.iG.hm), A0.iG.me, _, rfl, ifF ?_⟩⟩
        exact ⟨s1, _, _, rfl, fun z => nomatch z⟩
      | bad =>
        have e1 : dueC its .bad = .word := by
          unfold dueC
          rw [if_neg c1, fn]
        rw [e1] at q2
        have fin : ∀ d H3, H3 d = some (.xd (([Str.ofString "what"] : List Str).zip [V.str (Str.ofString "tongue")]).reverse) → Same H1 H3 → E (.ref CBadWord) (some d) H3 := fun d H3 h3 s3 => q2 (fun z => nomatch z) d H3 (fun b o z => s3 _ _ (s1 _ _ z)) h3
        rcases hr0 with rfl | rfl | ⟨b, zs, rfl, hb⟩
        · exact ⟨_, rfl, rfl, _, rfl, ify (by rw [decide_eq_false (fun z => nomatch z)]; rfl) ⟨_, rfl, _, _, _, _, false, rfl, .own CG, .base (.str _), (FG.k "str" (by simp)).1, _, rfl, ifT ⟨rfl, fun d H3 hd h3 s3 => fin d H3 h3 s3⟩⟩⟩
        · exact ⟨_, rfl, rfl, _, rfl, ify (by rw [decide_eq_false (fun z => nomatch z)]; rfl) ⟨_, rfl, _, _, _, _, false, rfl, .own CG, .base (.int _), (FG.k "int" (by simp)).1, _, rfl, ifT ⟨rfl, fun d H3 hd h3 s3 => fin d H3 h3 s3⟩⟩⟩
        · exact ⟨_, rfl, rfl, _, rfl, ify (by rw [decide_eq_false (fun z => nomatch z)]; rfl) ⟨_, rfl, _, _, _, _, false, rfl, .own CG, .base (.lst (s1 _ _ hb)), (FG.k "list" (by simp)).1, _, rfl, ifT ⟨rfl, fun d H3 hd h3 s3 => fin d H3 h3 s3⟩⟩⟩
    clear s1
    rintro σ' H1 ⟨s1, v2, v3, rfl, hnb⟩
    refine .inr ⟨_, rfl, L, xs, rfl, SqT.of (s1 _ _ hL), ?_⟩
    refine for_it walk_enumT (fun i σ H' => Same H H' ∧ ∃ v2 v3 : Option V, σ = [some (.ref L), some tv, v2, v3] ∧ (r = .no → ∀ y ∈ its.take i, y.asks = false)) ?_ (fun i σ H' _ z => SqT.of (z.1 _ _ hL)) ?_ ?_
    · exact ⟨s1, v2, v3, rfl, fun _ y hy => nomatch hy⟩
    · rintro i x σ H1 H2 hi ⟨s1, v2, v3, rfl, hno2⟩ ⟨T', x', y', rfl, hT, rfl, ex, ey⟩
      cases ex
      dsimp only at ey
      have hil : i < its.length := by omega
      have hq : its[i]? = some its[i] := List.getElem?_eq_getElem hil
      obtain ⟨hv, ok⟩ := ha i _ _ ey hq
      have nn := hno its[i] (List.getElem_mem hil)
      generalize its[i] = it at hq hv ok nn
      have s2 := same_new s1 hT (.tup [.int ((i : Nat) : Int), y'])
      refine ⟨T', _, rfl, SqT.of upd_same, rfl, _, _, rfl, _, _, rfl, rfl, ?_⟩
      cases it with
      | no u => cases nn
      | st s =>
        obtain ⟨a, rfl, dx, tw, ea, _⟩ := hv
        cases r with
        | bad => exact absurd rfl hnb
        | tongue =>
          obtain ⟨g, t, rfl, _⟩ := hr0
          exact ⟨_, rfl, rfl, _, rfl, ifn (decide_eq_false (fun z => nomatch z)) ⟨s2, _, _, rfl, fun z => nomatch z⟩⟩
        | no =>
          obtain rfl : tv = .non := hr0
          refine ⟨_, rfl, rfl, _, rfl, ify (decide_eq_true rfl) ⟨_, rfl, a, CS, dx, _, _, rfl, s2 _ _ ea, AS.i.cl, AS.a7, rfl, _, rfl, ?_⟩⟩
          cases hk : s.k with
          | false => exact ifF ⟨s2, _, _, rfl, fun _ => take_f (hno2 rfl) hq hk⟩
          | true =>
            have e1 : dueC its .no = .tongue i := by
              unfold dueC
              rw [if_neg c1, fn]
              dsimp only
              rw [fst_hit (k := 0) hq hk (hno2 rfl), Nat.zero_add]
            rw [e1] at q2
            refine ifT ⟨_, rfl, rfl, fun d H3 hd h3 s3 => q2 (fun z => nomatch z) d H3 (fun b o z => s3 _ _ (s2 _ _ z)) h3⟩
    rintro σ H2 ⟨s2, v2, v3, rfl, hno2⟩
    have e1 : dueC its r = .fine := by
      unfold dueC
      rw [if_neg c1, fn]
      cases r with
      | bad => exact absurd rfl hnb
      | tongue => rfl
      | no =>
        dsimp only
        rw [fst_none (k := 0) fun y hy => hno2 rfl y (by rw [List.take_of_length_le (by omega)]; exact hy)]
    exact q1 e1 H2 s2

end
end Vf

set_option maxRecDepth 100000
set_option maxHeartbeats 4000000
namespace Vf
open PySem PySem.Spec PyProof.Rows L2 SX
section
variable {P : Program} {w : World} {K : PySem.W.Frag} {mg : Str → Option Value} {base : Heap}
theorem ts_ins {CL : Addr} {H : Hp} {c : Addr} {t : Tst} (h : TsAt CL H c t) : ∃ dx fs, H c = some (.ins CL dx fs) := by
  cases t with
  | pl p n => obtain ⟨dx, e⟩ := h; exact ⟨dx, _, e⟩
  | rg p q n => obtain ⟨dx, b, c, e, _⟩ := h; exact ⟨dx, _, e⟩
theorem ok_checkTest {f : Addr} {fd : FuncData} {CR CD CG CL CS CC CT CBadWord CBadNumber CBadStep CTooMany CNoTongue CW : Addr} (F : C8.Def K mg "check_test" s_checkTest f fd) (b : Binds K fd ["test"] []) (T : Tx K w mg) (ES : Es P w K mg base CT CBadWord CBadNumber CBadStep CTooMany CNoTongue CW) (G_LineTest : mg "LineTest" = some (.ref CL)) (A0 : Ca K CR CD CG) (AL : CaL K CL) (AS : CaS K CS) (AC : CaC K CC) (FL : Fgn K CL) (FS : Fgn K CS) (FC : Fgn K CC) (FG : Fgn K CG) : CalX P w K mg base 3 "check_test" (sp_checkTest CL) := by
  refine calX F b sc_checkTest (fun vs H Q E h => ?_) (fun cdv A outer s H vs Q E hr h => ?_)
  · obtain ⟨c, t, rfl, _⟩ := h; rfl
  have hu := hu_of hr
  refine ⟨_, (pss_one (ps_if (pt_not (pt_val (pe_callB call_isi (by rfl) T.z_isinstance (by decide +kernel) (pa_cons (pv 0) (pa_cons (pe_cls (G_LineTest) rfl) pa_nil)))))
      (pss_one (ps_rx ES.r_BadWord hr (by decide) rfl rfl (takes_of rfl rfl rfl rfl) (pa_cons pe_str pa_nil)))
      pss_nil)), ?_⟩

  obtain ⟨c, t, rfl, ht, q⟩ := h
  obtain ⟨dx, fs, e⟩ := ts_ins ht
  refine ⟨_, rfl, _, _, _, _, true, rfl, .own CL, .base (.ins e AL.i.cl AL.i.ha AL.i.hn AL.i.htk AL.i.hm), AL.i.me, _, rfl, ifF ?_⟩
  exact q

end
end Vf

set_option maxRecDepth 100000
set_option maxHeartbeats 4000000
namespace Vf
open PySem PySem.Spec PyProof.Rows L2 SX
section
variable {P : Program} {w : World} {K : PySem.W.Frag} {mg : Str → Option Value} {base : Heap}
theorem ok_draw {f : Addr} {fd : FuncData} (F : C8.Def K mg "_law_draw" s_draw f fd) (b : Binds K fd ["_law_pen_here", "_law_many"] []) (T : Tx K w mg)  : C8.Cal P w K mg base 1 "_law_draw" sp_draw [] := by
  refine C8.cal0 F b .nil sc_draw (fun vs H Q E h => ?_) (fun cdv A outer s H vs Q E hr h => ?_)
  · obtain ⟨p, c, m, n, rfl, _⟩ := h; rfl
  have hu := hu_of hr
  refine ⟨_, (pss_cons (ps_dput hu (pv 0) pe_str (pe_op op_add (pe_dget hu (pv 0) pe_str (fun _ _ => rfl)) pe_int) rfl)
      (C8.pss_cut (ps_if (PW.pt (pw_and (pt_cmpR op_eq (pe_dget hu (pv 0) pe_str (fun _ _ => rfl)) pe_int (nomark _)) (pw_and1 (pt_cmpR op_lt (pe_dget hu (pv 0) pe_str (fun _ _ => rfl)) (pe_callB call_len (by rfl) T.z_len PySem.boot_len (pa_cons (pe_dget hu (pv 0) pe_str (fun _ _ => rfl)) pa_nil)) (nomark _)))))
      (pss_cons (ps_set (i := 2) sc_draw.nd rfl (Or.inl rfl) (pe_ix ix_list (pe_dget hu (pv 0) pe_str (fun _ _ => rfl)) (pe_dget hu (pv 0) pe_str (fun _ _ => rfl)) (fun _ _ => rfl)))
      (pss_cons (ps_dput hu (pv 0) pe_str (pe_op op_add (pe_dget hu (pv 0) pe_str (fun _ _ => rfl)) pe_int) rfl)
      (pss_one (ps_if (pt_cmpR op_ge (pv 2) (pe_op op_pow pe_int pe_int) (nomark _))
      (pss_one (ps_dput hu (pv 0) pe_str (pe_op op_sub (pv 2) (pe_op op_pow pe_int pe_int)) rfl))
      (pss_one (ps_dput hu (pv 0) pe_str (pe_op op_mod (pe_callTy call_int1 (by rfl) T.z_int (by decide +kernel) (pa_cons (pe_op op_add (pe_op op_mul (pe_dget hu (pv 0) pe_str (fun _ _ => rfl)) pe_int) (pv 2)) pa_nil)) pe_int) rfl))))))
      pss_nil)
      (pss_cons (ps_if (pt_cmpR op_gt (pe_dget hu (pv 0) pe_str (fun _ _ => rfl)) pe_int (nomark _))
      (pss_cons (ps_set (i := 3) sc_draw.nd rfl (Or.inl rfl) (pe_op op_mod (pe_callTy call_int1 (by rfl) T.z_int (by decide +kernel) (pa_cons (pe_dget hu (pv 0) pe_str (fun _ _ => rfl)) pa_nil)) (pv 1)))
      (pss_cons (ps_dput hu (pv 0) pe_str (pe_op op_fdiv (pe_dget hu (pv 0) pe_str (fun _ _ => rfl)) (pv 1)) rfl)
      (pss_one (ps_ret (pv 3)))))
      pss_nil)
      (pss_cons (ps_set (i := 4) sc_draw.nd rfl (Or.inl rfl) (pe_op op_add (pe_op op_add (pe_dget hu (pv 0) pe_str (fun _ _ => rfl)) (pe_op op_mul (pe_dget hu (pv 0) pe_str (fun _ _ => rfl)) pe_int)) pe_int))
      (pss_one (ps_ret (pe_op op_mod (pe_op op_fdiv (pe_callTy call_int1 (by rfl) T.z_int (by decide +kernel) (pa_cons (pe_op op_mod (pe_op op_pow (pv 4) pe_int) pe_int) pa_nil)) pe_int) (pv 1)))))))), ?_⟩

  obtain ⟨p, c, m, n, rfl, ⟨ns, a, d, t, fo, hp, hc, hl, ha, hd, ht, htm, hf0, hf1⟩, hm, hn1, hn2, q⟩ := h
  have hpc : c ≠ p := ne_of hc hp (by intro z; cases z)
  have nx : ∀ o, (upd H p o) c = some (.lst (ns.map V.int)) := fun o => by rw [upd_ne hpc]; exact hc
  have lns : (ns.map V.int).length = ns.length := List.length_map _
  -- count
  refine ⟨_, rfl, p, _, rfl, pg_count hp, _, _, rfl, rfl, _, rfl, p, _, rfl, pp_count hp, ?_⟩
  have h1 : (upd H p (.dK (pk c a d (t + 1) fo))) p = some (.dK (pk c a d (t + 1) fo)) := upd_same
  -- the cell
  refine ⟨fun σ' H' => ∃ (v2 : Option V) (a' d' f' : Int), σ' = [some (.ref p), some (.int (n : Int)), v2, none, none] ∧ H' = upd H p (.dK (pk c a' d' (t + 1) f')) ∧ 0 ≤ a' ∧ 0 ≤ d' ∧ 0 ≤ f' ∧ f' < 2147483648, ?_, ?_⟩
  · refine ⟨_, rfl, p, _, rfl, pg_digits h1, rfl, _, rfl, ?_⟩
    refine ite2 (fun e0 => ?_) (fun _ => ?_)
    · refine ⟨_, rfl, p, _, rfl, pg_at h1, _, rfl, p, _, rfl, pg_cells h1, _, _, rfl, .inl ⟨_, SqL.of (nx _), rfl⟩, _, _, rfl, rfl, _, rfl, ?_⟩
      refine ite2 (fun e1 => ?_) (fun _ => ?_)
      · have e1' : a < (((ns.map V.int).length : Nat) : Int) := of_decide_eq_true e1
        rw [lns] at e1'
        have hk : a.toNat < ns.length := by omega
        have ek : a = ((a.toNat : Nat) : Int) := by omega
        have g : (ns.map V.int)[a.toNat]? = some (.int ns[a.toNat]) := by
          rw [List.getElem?_map, List.getElem?_eq_getElem hk]; rfl
        refine ⟨_, rfl, p, _, rfl, pg_cells h1, _, rfl, p, _, rfl, pg_at h1, c, _, a, _, rfl, rfl, SqL.of (nx _), at_of ek g, ?_⟩
        refine ⟨_, rfl, p, _, rfl, pg_at h1, _, _, rfl, rfl, _, rfl, p, _, rfl, pp_at h1, ?_⟩
        rw [upd_upd]
        have h2 : (upd H p (.dK (pk c (a + 1) d (t + 1) fo))) p = some (.dK (pk c (a + 1) d (t + 1) fo)) := upd_same
        refine ⟨_, rfl, _, _, rfl, rfl, ⟨by decide, by decide, by decide⟩, _, _, rfl, rfl, _, rfl, ?_⟩
        refine ite2 (fun e2 => ?_) (fun _ => ?_)
        · have e2' : (10 : Int) ^ (18 : Int).toNat ≤ ns[a.toNat] := of_decide_eq_true e2
          refine ⟨_, rfl, _, _, rfl, rfl, ⟨by decide, by decide, by decide⟩, _, _, rfl, rfl, _, rfl, p, _, rfl, pp_digits h2, ?_⟩
          rw [upd_upd]
          exact ⟨_, _, _, _, rfl, rfl, by omega, by omega, hf0, hf1⟩
        · refine ⟨_, rfl, p, _, rfl, pg_fold h2, _, _, rfl, rfl, .inl ⟨by omega, by omega⟩, _, rfl, _, _, rfl, rfl, .inl ⟨_, rfl, _, _, rfl, rfl, (by decide : (0 : Int) < 2147483587), _, rfl, p, _, rfl, pp_fold h2, ?_⟩⟩
          rw [upd_upd]
          exact ⟨_, _, _, _, rfl, rfl, by omega, hd, Int.emod_nonneg _ (by decide), Int.lt_trans (Int.emod_lt_of_pos _ (by decide)) (by decide)⟩
      · exact ⟨_, _, _, _, rfl, rfl, ha, hd, hf0, hf1⟩
    · exact ⟨_, _, _, _, rfl, rfl, ha, hd, hf0, hf1⟩
  · rintro σ' H' ⟨v2, a', d', f', rfl, rfl, ha', hd', hf', hf2⟩
    have h2 : (upd H p (.dK (pk c a' d' (t + 1) f'))) p = some (.dK (pk c a' d' (t + 1) f')) := upd_same
    have fin : ∀ (d2 : Int) (r : Nat), 0 ≤ d2 → r < n → Q (.int (r : Int)) (upd H p (.dK (pk c a' d2 (t + 1) f'))) := fun d2 r h0 hr' =>
      q _ r (Ks.dict hp) ⟨ns, _, _, _, _, upd_same, nx _, hl, ha', h0, by omega, by omega, hf', hf2⟩ hr'
    refine ⟨_, rfl, p, _, rfl, pg_digits h2, _, _, rfl, rfl, _, rfl, ?_⟩
    refine ite2 (fun e0 => ?_) (fun _ => ?_)
    · refine ⟨_, rfl, p, _, rfl, pg_digits h2, .inl ⟨_, rfl, _, rfl, _, _, rfl, rfl, (by omega : (0 : Int) < (n : Int)), ?_⟩⟩
      refine ⟨_, rfl, p, _, rfl, pg_digits h2, _, rfl, _, _, rfl, rfl, ⟨by omega, by omega⟩, _, rfl, p, _, rfl, pp_digits h2, ?_⟩
      rw [upd_upd]
      refine ⟨_, rfl, ?_⟩
      have e1 : d' % (n : Int) = (((d' % (n : Int)).toNat : Nat) : Int) := by
        have := Int.emod_nonneg d' (show (n : Int) ≠ 0 by omega)
        omega
      have e2 : (d' % (n : Int)).toNat < n := by
        have := Int.emod_lt_of_pos d' (show (0 : Int) < n by omega)
        have := Int.emod_nonneg d' (show (n : Int) ≠ 0 by omega)
        omega
      show Q (.int (d' % (n : Int))) _
      rw [e1]
      exact fin _ _ (Int.ediv_nonneg hd' (by omega)) e2
    · refine ⟨_, rfl, p, _, rfl, pg_fold h2, _, rfl, p, _, rfl, pg_count h2, _, _, rfl, rfl, .inr ⟨by decide, by decide⟩, _, _, rfl, rfl, _, _, rfl, rfl, ?_⟩
      refine ⟨_, rfl, _, _, rfl, rfl, ⟨by decide, by decide, ?_⟩, _, _, rfl, rfl, (by decide : (0 : Int) < 2305843009213693951), .inl ⟨_, rfl, _, _, rfl, rfl, ⟨by decide, by decide⟩, _, rfl, _, _, rfl, rfl, (by omega : (0 : Int) < (n : Int)), ?_⟩⟩
      · show (f' + (t + 1) * 7907 + 37).natAbs < 2 ^ 64
        have : (2 : Nat) ^ 64 = 18446744073709551616 := by decide
        omega
      generalize (f' + (t + 1) * 7907 + 37) ^ (17 : Int).toNat % 2305843009213693951 / 128 = z
      have e1 : z % (n : Int) = (((z % (n : Int)).toNat : Nat) : Int) := by
        have := Int.emod_nonneg z (show (n : Int) ≠ 0 by omega)
        omega
      have e2 : (z % (n : Int)).toNat < n := by
        have := Int.emod_lt_of_pos z (show (0 : Int) < n by omega)
        have := Int.emod_nonneg z (show (n : Int) ≠ 0 by omega)
        omega
      show Q (.int (z % (n : Int))) _
      rw [e1]
      exact fin _ _ hd' e2

end
end Vf

set_option maxRecDepth 100000
set_option maxHeartbeats 4000000
namespace Vf
open PySem PySem.Spec PyProof.Rows L2 SX
section
variable {P : Program} {w : World} {K : PySem.W.Frag} {mg : Str → Option Value} {base : Heap}
theorem ItsL.tk {H H' : Hp} {xs : List V} {its : List It} (h : ItsL H xs its) (m : Tk H H') : ItsL H' xs its := ⟨h.1, fun j v i a b => ⟨(h.2 j v i a b).1.tk m, (h.2 j v i a b).2⟩⟩
theorem ItsL.snoc {H : Hp} {xs : List V} {its : List It} {v : V} {i : It} (h : ItsL H xs its) (hv : ItL H v i) (ok : ItOk i) : ItsL H (xs ++ [v]) (its ++ [i]) := by
  refine ⟨by rw [List.length_append, List.length_append, h.1]; rfl, fun j u k a b => ?_⟩
  have hl := h.1
  rcases Nat.lt_or_ge j xs.length with z | z
  · rw [List.getElem?_append_left z] at a
    rw [List.getElem?_append_left (by omega)] at b
    exact h.2 j u k a b
  · have hi := (List.getElem?_eq_some_iff.mp a).1
    rw [List.length_append, List.length_singleton] at hi
    have e : j = xs.length := by omega
    subst e
    rw [List.getElem?_append_right (Nat.le_refl _), Nat.sub_self] at a
    rw [List.getElem?_append_right (by omega), ← hl, Nat.sub_self] at b
    cases a; cases b
    exact ⟨hv, ok⟩
theorem no_v {v : V} (h : v ∈ ([.non, .str "drop lines all", .int 3] : List V)) : NoV v := by
  simp only [List.mem_cons, List.not_mem_nil, or_false] at h
  exact h
theorem a_ok : WdOk [97] := ⟨⟨by decide +kernel, by decide⟩, by decide⟩
theorem sg_pt2 {sg t : List Nat} (h : ∀ z ∈ t, z ∈ sg) (hs : sgn sg) (l : t.length ≤ 6) : PtOk t := ⟨List.all_eq_true.mpr fun z hz => decide_eq_true (hs z (h z hz)).1, l⟩
theorem ok_drawnSteps {f : Addr} {fd : FuncData} (F : C8.Def K mg "_law_drawn_steps" s_drawnSteps f fd) (b : Binds K fd ["_law_pen_here", "_law_signs_here"] []) (T : Tx K w mg) (C_draw : C8.Cal P w K mg base 1 "_law_draw" sp_draw []) (C_lawStep : C8.Cal P w K mg base 7 "_law_step" sp_lawStep []) (C_pick : C8.Cal P w K mg base 2 "_law_pick" sp_pick []) (C_patch : C8.Cal P w K mg base 4 "_law_patch" sp_patch []) : C8.Cal P w K mg base 8 "_law_drawn_steps" sp_drawnSteps [] := by
  refine C8.cal0 F b .nil sc_drawnSteps (fun vs H Q E h => ?_) (fun cdv A outer s H vs Q E hr h => ?_)
  · obtain ⟨p, c, m, sg, rfl, _⟩ := h; rfl
  have hu := hu_of hr
  refine ⟨_, (pss_cons (ps_set (i := 2) sc_drawnSteps.nd rfl (Or.inl rfl) (pe_lst pa_nil))
      (pss_cons (ps_for PassesOwn.never rfl (pi_range1 (by rfl) T.z_range (pa_cons (C8.pe_c C_draw hr (by decide) rfl (pa_cons (pv 0) (pa_cons pe_int pa_nil))) pa_nil)) (pg_name (i := 3) sc_drawnSteps.nd rfl (Or.inl rfl))
      (pss_cons (ps_set (i := 4) sc_drawnSteps.nd rfl (Or.inl rfl) (C8.pe_c C_draw hr (by decide) rfl (pa_cons (pv 0) (pa_cons pe_int pa_nil))))
      (pss_cons (ps_set (i := 5) sc_drawnSteps.nd rfl (Or.inl rfl) (C8.pe_c C_lawStep hr (by decide) rfl (pa_cons (pv 0) (pa_cons (pv 1) pa_nil))))
      (C8.pss_cut (ps_if (pt_cmpR op_eq (pv 4) pe_int (nomark _))
      (pss_one (ps_set (i := 5) sc_drawnSteps.nd rfl (Or.inl rfl) (C8.pe_c C_pick hr (by decide) rfl (pa_cons (pv 0) (pa_cons (pe_lst (pa_cons pe_non (pa_cons pe_str (pa_cons pe_int pa_nil)))) pa_nil)))))
      pss_nil)
      (C8.pss_cut (ps_if (pt_cmpR op_eq (pv 4) pe_int (nomark _))
      (pss_one (ps_set (i := 5) sc_drawnSteps.nd rfl (Or.inl rfl) (pe_tup (pa_cons pe_str (pa_cons pe_str (pa_cons (C8.pe_c C_patch hr (by decide) rfl (pa_cons (pv 0) (pa_cons (pv 1) (pa_cons pe_int pa_nil)))) (pa_cons pe_str (pa_cons pe_non (pa_cons pe_non pa_nil)))))))))
      pss_nil)
      (pss_one (ps_expr (pe_bm PySem.F.plainAttrs_list PySem.F.slot_list_append PySem.F.type_list_append mt_append (pv 2) (pa_cons (pv 5) pa_nil)))))))))
      (pss_one (ps_ret (pv 2))))), ?_⟩

  obtain ⟨p, c, m, sg, rfl, hp, hm, hs1, hs2, hsg, q⟩ := h
  refine ⟨szB (by decide), fun L hL => ?_⟩
  have s0 := same1 hL (.lst [])
  refine ⟨_, rfl, p, c, m, 9, rfl, hp.same s0, by omega, by decide, by decide, fun H1 r k1 p1 hr1 => ?_⟩
  have hL1 : H1 L = some (.lst []) := k1.lst upd_same
  have k01 := (Ks.of s0).trans k1
  refine ⟨(r : Int), rfl, by omega, by omega, ?_⟩
  rw [show ((r : Nat) : Int).toNat = r from Int.toNat_natCast r]
  refine for_range (lo := 0) (n := r) (fun i σ H' => Ks H H' ∧ ∃ (xs : List V) (its : List It) (v3 v4 v5 : Option V), σ = [some (.ref p), some (.str (S sg)), some (.ref L), v3, v4, v5] ∧ PenAt H' p c (m + 1 + i * 150) ∧ H' L = some (.lst xs) ∧ ItsL H' xs its ∧ its.length = i) ?_ ?_ ?_
  · exact ⟨k01, [], [], none, none, none, rfl, p1, hL1, ⟨rfl, fun j v i a => by cases a⟩, rfl⟩
  · rintro i σ H2 hi ⟨k2, xs, its, v3, v4, v5, rfl, p2, hL2, hx2, hl2⟩
    refine ⟨_, rfl, p, c, m + 1 + i * 150, 12, rfl, p2, by omega, by decide, by decide, fun H3 w k3 p3 hw3 => ?_⟩
    refine ⟨_, rfl, _, rfl, p, c, _, sg, rfl, p3, by omega, hs1, hs2, hsg, fun H4 a s k4 p4 ha oks => ?_⟩
    have k04 := k2.trans (k3.trans k4)
    have hL4 := k4.lst (k3.lst hL2)
    have hx4 := (hx2.tk k3.tk).tk k4.tk
    refine ⟨fun σ' H' => ∃ (v : V) (it : It), σ' = [some (.ref p), some (.str (S sg)), some (.ref L), some (.int ((0 : Int) + (i : Int))), some (.int (w : Int)), some v] ∧ Ks H H' ∧ PenAt H' p c (m + 1 + i * 150 + 110) ∧ H' L = some (.lst xs) ∧ ItsL H' xs its ∧ ItL H' v it ∧ ItOk it, ?_, ?_⟩
    · refine ⟨_, rfl, rfl, _, rfl, ?_⟩
      by_cases c0 : V.int (w : Int) = V.int 0
      · refine ify (decide_eq_true c0) ⟨_, rfl, szB (show 3 ≤ 1000000 by decide), fun Z hZ => ?_⟩
        refine ⟨p, c, _, _, rfl, p4.new hZ, by omega, .inr ⟨Z, _, rfl, upd_same, by decide, by decide, fun H5 v k5 p5 hv => ?_⟩⟩
        have kz := (Ks.new1 hZ (.lst [.non, .str "drop lines all", .int 3])).trans k5
        exact ⟨v, .no v, rfl, k04.trans kz, p5.mono (by omega), kz.lst hL4, hx4.tk kz.tk, rfl, no_v hv⟩
      · exact ifn (decide_eq_false c0) ⟨.ref a, .st s, rfl, k04, p4.mono (by omega), hL4, hx4, ⟨a, rfl, ha⟩, oks⟩
    rintro σ' H5 ⟨v, it, rfl, k5, p5, hL5, hx5, hv5, ok5⟩
    refine ⟨fun σ' H' => ∃ (v : V) (it : It), σ' = [some (.ref p), some (.str (S sg)), some (.ref L), some (.int ((0 : Int) + (i : Int))), some (.int (w : Int)), some v] ∧ Ks H H' ∧ PenAt H' p c (m + 1 + i * 150 + 130) ∧ H' L = some (.lst xs) ∧ ItsL H' xs its ∧ ItL H' v it ∧ ItOk it, ?_, ?_⟩
    · refine ⟨_, rfl, rfl, _, rfl, ?_⟩
      by_cases c1 : V.int (w : Int) = V.int 1
      · refine ify (decide_eq_true c1) ⟨_, rfl, _, rfl, p, c, _, 3, sg, rfl, p5, by omega, by decide, by decide, hs1, by omega, fun H6 n k6 p6 n1 nm => ⟨szB (show 6 ≤ 1000000 by decide), fun T0 hT => ?_⟩⟩
        have kz := k6.trans (Ks.new1 hT (.tup [.str "replace", .str "a", .str (S n), .str "code", .non, .non]))
        refine ⟨.ref T0, .st ⟨"replace", some [97], some n, true, none⟩, rfl, k5.trans kz, (p6.new hT).mono (by omega), kz.lst hL5, hx5.tk kz.tk, ⟨T0, rfl, .non, ?_, rfl⟩, ?_⟩
        · exact upd_same
        · exact .ex (.inl rfl) a_ok (sg_pt2 nm hsg (by omega)) (fun z => absurd rfl z) (fun _ => rfl) (fun _ z => nomatch z)
      · exact ifn (decide_eq_false c1) ⟨v, it, rfl, k5, p5.mono (by omega), hL5, hx5, hv5, ok5⟩
    rintro σ' H6 ⟨v, it, rfl, k6, p6, hL6, hx6, hv6, ok6⟩
    refine ⟨_, rfl, .inl ⟨rfl, _, SqL.of hL6⟩, _, rfl, L, _, _, rfl, rfl, hL6, szL (by have := hx6.1; omega), ?_⟩
    have tk : Tk H6 (upd H6 L (.lst (xs ++ [v]))) := fun b ys z => by rw [upd_ne fun y => by rw [y, hL6] at z; cases z]; exact z
    have nL : L ≠ p ∧ L ≠ c := hp.ne hL
    exact ⟨k6.upd hL _, xs ++ [v], its ++ [it], _, _, _, rfl, (p6.upd nL.1 nL.2).mono (by omega), upd_same, (hx6.tk tk).snoc (hv6.tk tk) ok6, by rw [List.length_append, hl2]; rfl⟩
  · rintro σ H2 ⟨k2, xs, its, v3, v4, v5, rfl, p2, hL2, hx2, hl2⟩
    exact ⟨_, rfl, q H2 L xs its k2 (p2.mono (by omega)) hL2 hx2 (by omega)⟩

end
end Vf

set_option maxRecDepth 100000
set_option maxHeartbeats 4000000
namespace Vf
open PySem PySem.Spec PyProof.Rows L2 SX
section
variable {P : Program} {w : World} {K : PySem.W.Frag} {mg : Str → Option Value} {base : Heap}
theorem ok_dropStep {f : Addr} {fd : FuncData} {CL CS : Addr} (F : C8.Def K mg "drop_step" s_dropStep f fd) (b : Binds K fd ["test"] []) (T : Tx K w mg) (MN_Step_test : MakN P w K mg base 1 "Step" CS (sp_Step_init CS) 1 ["test"] gv_test) (C_checkTest : CalX P w K mg base 3 "check_test" (sp_checkTest CL)) : CalX P w K mg base 4 "drop_step" (sp_dropStep CL CS) := by
  refine calX F b sc_dropStep (fun vs H Q E h => ?_) (fun cdv A outer s H vs Q E hr h => ?_)
  · obtain ⟨c, t, rfl, _⟩ := h; rfl
  have hu := hu_of hr
  refine ⟨_, (pss_cons (ps_expr (pe_cx C_checkTest hr (by decide) rfl (takes_of rfl rfl rfl rfl) (pa_cons (pv 0) pa_nil)))
      (pss_one (ps_ret (pe_mkN MN_Step_test hr (by decide) rfl (pa_cons pe_str pa_nil) (pk_cons (pv 0) pk_nil))))), ?_⟩

  obtain ⟨c, t, rfl, ht, q⟩ := h
  refine ⟨_, rfl, c, t, rfl, ht, ?_⟩
  refine ⟨_, rfl, rfl, rfl, fun x dx hx hdx ne => ⟨x, dx, "drop", .non, .non, .ref c, false, rfl, upd_same, rfl, ?_⟩⟩
  exact st_made (s := ⟨"drop", none, none, false, some t⟩) hx hdx ne ⟨c, rfl, ht⟩ q

end
end Vf

set_option maxRecDepth 100000
set_option maxHeartbeats 4000000
namespace Vf
open PySem PySem.Spec PyProof.Rows L2 SX
section
variable {P : Program} {w : World} {K : PySem.W.Frag} {mg : Str → Option Value} {base : Heap}
theorem eq_flat {K : PySem.W.Frag} {H : Hp} {p q : Pt} (h : OkP p) (h' : OkP q) : ∃ d e, Dp K H p.2 d ∧ Dp K H q.2 e ∧ SeqAt.shaped d = true ∧ SeqAt.shaped e = true ∧ d = vD p.2 ∧ e = vD q.2 := ⟨_, _, (sc_dp h).1, (sc_dp h').1, (sc_dp (K := K) (H := H) h).2, (sc_dp (K := K) (H := H) h').2, rfl, rfl⟩
theorem dnon : SeqAt.shaped PyData.none = true := by simp [SeqAt.shaped, PyData.canLay0, PyData.depth]
theorem dV (a b : Str) : decide (V.str a = V.str b) = decide (a = b) := decide_eq_decide.mpr ⟨fun z => V.str.inj z, fun z => by rw [z]⟩
theorem ok_eqP {f : Addr} {fd : FuncData} {q : Str} {CL : Addr} (AL : CaL K CL) (gc : mg "LineTest" = some (.ref CL)) (T : Tx K w mg) (F : C8.Fun K "__eq__" q s_LineTest_eq f fd) : FnOk P w K mg base C8.CX0 1 f fd ["self", "other"] (sp_LineTest_eqP CL) := by
  refine C8.fn0 F sc_LineTest_eq (fun vs H Q E h => ?_) (fun cdv A outer s H vs Q E hr h => ?_)
  · obtain ⟨a, b, r, rfl, _⟩ := h; rfl
  refine ⟨_, (pss_one (ps_ret (pe_and (pe_callB (C8.call_isC AL.i) (by rfl) T.z_isinstance (by decide +kernel) (pa_cons (pv 1) (pa_cons (pe_cls (gc) rfl) pa_nil))) (pe_and (pe_cmpR op_eq (pe_fld (pv 0) rfl) (pe_fld (pv 1) rfl) (nomark _)) (pe_and (pe_cmpR (op_eqD hr.units) (pe_fld (pv 0) rfl) (pe_fld (pv 1) rfl) (nomark _)) (pe_and (pe_cmpR (op_eqD hr.units) (pe_fld (pv 0) rfl) (pe_fld (pv 1) rfl) (nomark _)) (pe_and (pe_cmpR (op_eqD hr.units) (pe_fld (pv 0) rfl) (pe_fld (pv 1) rfl) (nomark _)) (pe_one (pe_cmpR op_eq (pe_fld (pv 0) rfl) (pe_fld (pv 1) rfl) (nomark _)))))))))), ?_⟩
  obtain ⟨a, b, r, rfl, ⟨p, q, n, m, ⟨dx, ha⟩, ⟨dy, hb⟩, op, oq, rfl⟩, k⟩ := h
  have k' := k H (fun _ _ z => z)
  rw [eqT_pl] at k'
  have cl := AL.i.cl
  obtain ⟨d, e, D1, D2, S1, S2, e1, e2⟩ := eq_flat (K := K) (H := H) op oq
  refine ⟨_, rfl, b, dy, _, rfl, hb, true, rfl, ifT ?_⟩
  refine ⟨_, rfl, a, CL, dx, _, _, rfl, ha, cl, AL.a1, rfl, _, rfl, b, CL, dy, _, _, rfl, hb, cl, AL.a1, rfl, rfl, _, rfl, ?_⟩
  rw [dV]
  by_cases c1 : p.1 = q.1
  · rw [decide_eq_true c1]
    rw [decide_eq_true c1, Bool.true_and] at k'
    refine ifT ?_
    refine ⟨_, rfl, a, CL, dx, _, _, rfl, ha, cl, AL.a2, rfl, _, rfl, b, CL, dy, _, _, rfl, hb, cl, AL.a2, rfl, d, e, D1, D2, S1, S2, _, rfl, ?_⟩
    rw [e1, e2]
    cases c2 : PyData.eqv (vD p.2) (vD q.2) with
    | false =>
      rw [c2, Bool.false_and] at k'
      exact ifF k'
    | true =>
      rw [c2, Bool.true_and] at k'
      refine ifT ?_
      refine ⟨_, rfl, a, CL, dx, _, _, rfl, ha, cl, AL.a3, rfl, _, rfl, b, CL, dy, _, _, rfl, hb, cl, AL.a3, rfl, _, _, .non, .non, dnon, dnon, _, rfl, ifT ?_⟩
      refine ⟨_, rfl, a, CL, dx, _, _, rfl, ha, cl, AL.a4, rfl, _, rfl, b, CL, dy, _, _, rfl, hb, cl, AL.a4, rfl, _, _, .non, .non, dnon, dnon, _, rfl, ifT ?_⟩
      refine ⟨_, rfl, a, CL, dx, _, _, rfl, ha, cl, AL.a5, rfl, _, rfl, b, CL, dy, _, _, rfl, hb, cl, AL.a5, rfl, rfl, ?_⟩
      rw [dB]
      exact k'
  · rw [decide_eq_false c1]
    rw [decide_eq_false c1, Bool.false_and] at k'
    exact ifF k'
theorem ok_eq {f : Addr} {fd : FuncData} {q : Str} {CL : Addr} (AL : CaL K CL) (gc : mg "LineTest" = some (.ref CL)) (T : Tx K w mg) (F : C8.Fun K "__eq__" q s_LineTest_eq f fd) (EQ : Eqc P w K mg base 1 CL (EqP CL)) : FnOk P w K mg base C8.CX0 2 f fd ["self", "other"] (sp_LineTest_eq CL) := by
  refine C8.fn0 F sc_LineTest_eq (fun vs H Q E h => ?_) (fun cdv A outer s H vs Q E hr h => ?_)
  · obtain ⟨a, b, r, rfl, _⟩ := h; rfl
  refine ⟨_, (pss_one (ps_ret (pe_and (pe_callB (C8.call_isC AL.i) (by rfl) T.z_isinstance (by decide +kernel) (pa_cons (pv 1) (pa_cons (pe_cls (gc) rfl) pa_nil))) (pe_and (pe_cmpR op_eq (pe_fld (pv 0) rfl) (pe_fld (pv 1) rfl) (nomark _)) (pe_and (pe_cmpR (op_eqD hr.units) (pe_fld (pv 0) rfl) (pe_fld (pv 1) rfl) (nomark _)) (pe_and (pe_cmpR (op_eqI2 EQ hr (by decide) (op_eqD hr.units)) (pe_fld (pv 0) rfl) (pe_fld (pv 1) rfl) (nomark _)) (pe_and (pe_cmpR (op_eqI2 EQ hr (by decide) (op_eqD hr.units)) (pe_fld (pv 0) rfl) (pe_fld (pv 1) rfl) (nomark _)) (pe_one (pe_cmpR op_eq (pe_fld (pv 0) rfl) (pe_fld (pv 1) rfl) (nomark _)))))))))), ?_⟩
  obtain ⟨a, b, r, rfl, ⟨t, u, ta, tb, ot, ou, rfl⟩, k⟩ := h
  have cl := AL.i.cl
  match t, u, ta, tb, ot, ou, k with
  | .pl p n, .pl q m, ⟨dx, ha⟩, ⟨dy, hb⟩, op, oq, k =>
    have k' := k H (fun _ _ z => z)
    rw [eqT_pl] at k'
    obtain ⟨d, e, D1, D2, S1, S2, e1, e2⟩ := eq_flat (K := K) (H := H) op oq
    refine ⟨_, rfl, b, dy, _, rfl, hb, true, rfl, ifT ?_⟩
    refine ⟨_, rfl, a, CL, dx, _, _, rfl, ha, cl, AL.a1, rfl, _, rfl, b, CL, dy, _, _, rfl, hb, cl, AL.a1, rfl, rfl, _, rfl, ?_⟩
    rw [dV]
    by_cases c1 : p.1 = q.1
    · rw [decide_eq_true c1]
      rw [decide_eq_true c1, Bool.true_and] at k'
      refine ifT ?_
      refine ⟨_, rfl, a, CL, dx, _, _, rfl, ha, cl, AL.a2, rfl, _, rfl, b, CL, dy, _, _, rfl, hb, cl, AL.a2, rfl, d, e, D1, D2, S1, S2, _, rfl, ?_⟩
      rw [e1, e2]
      cases c2 : PyData.eqv (vD p.2) (vD q.2) with
      | false =>
        rw [c2, Bool.false_and] at k'
        exact ifF k'
      | true =>
        rw [c2, Bool.true_and] at k'
        refine ifT ?_
        refine ⟨_, rfl, a, CL, dx, _, _, rfl, ha, cl, AL.a3, rfl, _, rfl, b, CL, dy, _, _, rfl, hb, cl, AL.a3, rfl, .inl ⟨_, _, .non, .non, dnon, dnon, _, rfl, ifT ?_⟩⟩
        refine ⟨_, rfl, a, CL, dx, _, _, rfl, ha, cl, AL.a4, rfl, _, rfl, b, CL, dy, _, _, rfl, hb, cl, AL.a4, rfl, .inl ⟨_, _, .non, .non, dnon, dnon, _, rfl, ifT ?_⟩⟩
        refine ⟨_, rfl, a, CL, dx, _, _, rfl, ha, cl, AL.a5, rfl, _, rfl, b, CL, dy, _, _, rfl, hb, cl, AL.a5, rfl, rfl, ?_⟩
        rw [dB]
        exact k'
    · rw [decide_eq_false c1]
      rw [decide_eq_false c1, Bool.false_and] at k'
      exact ifF k'
  | .pl p n, .rg q q' m, ⟨dx, ha⟩, ⟨dy, b1, b2, hb, _, _⟩, op, oq, k =>
    have k' := k H (fun _ _ z => z)
    rw [eqT_plrg op] at k'
    refine ⟨_, rfl, b, dy, _, rfl, hb, true, rfl, ifT ?_⟩
    refine ⟨_, rfl, a, CL, dx, _, _, rfl, ha, cl, AL.a1, rfl, _, rfl, b, CL, dy, _, _, rfl, hb, cl, AL.a1, rfl, rfl, _, rfl, ?_⟩
    rw [dV, decide_eq_false op.nf]
    exact ifF k'
  | .rg p p' n, .pl q m, ⟨dx, a1, a2, ha, _, _⟩, ⟨dy, hb⟩, op, oq, k =>
    have k' := k H (fun _ _ z => z)
    rw [eqT_rgpl oq] at k'
    refine ⟨_, rfl, b, dy, _, rfl, hb, true, rfl, ifT ?_⟩
    refine ⟨_, rfl, a, CL, dx, _, _, rfl, ha, cl, AL.a1, rfl, _, rfl, b, CL, dy, _, _, rfl, hb, cl, AL.a1, rfl, rfl, _, rfl, ?_⟩
    rw [dV, decide_eq_false fun z => oq.nf z.symm]
    exact ifF k'
  | .rg p p' n, .rg q q' m, ⟨dx, a1, a2, ha, ha1, ha2⟩, ⟨dy, b1, b2, hb, hb1, hb2⟩, op, oq, k =>
    rw [eqT_rg] at k
    refine ⟨_, rfl, b, dy, _, rfl, hb, true, rfl, ifT ?_⟩
    refine ⟨_, rfl, a, CL, dx, _, _, rfl, ha, cl, AL.a1, rfl, _, rfl, b, CL, dy, _, _, rfl, hb, cl, AL.a1, rfl, rfl, _, rfl, ifT ?_⟩
    refine ⟨_, rfl, a, CL, dx, _, _, rfl, ha, cl, AL.a2, rfl, _, rfl, b, CL, dy, _, _, rfl, hb, cl, AL.a2, rfl, _, _, .non, .non, dnon, dnon, _, rfl, ifT ?_⟩
    obtain ⟨d1, h1⟩ := id ha1
    obtain ⟨e1, g1⟩ := id hb1
    refine ⟨_, rfl, a, CL, dx, _, _, rfl, ha, cl, AL.a3, rfl, _, rfl, b, CL, dy, _, _, rfl, hb, cl, AL.a3, rfl, .inr ⟨a1, b1, _, d1, e1, _, _, rfl, rfl, h1, g1, ⟨p, q, false, false, ha1, hb1, op.1, oq.1, rfl⟩, fun H1 s1 => ?_⟩⟩
    refine ⟨_, rfl, ?_⟩
    rw [Bool.bne_false]
    cases c1 : eqT (.pl p false) (.pl q false) with
    | false =>
      rw [c1, Bool.false_and] at k
      exact ifF (k H1 s1)
    | true =>
      rw [c1, Bool.true_and] at k
      refine ifT ?_
      obtain ⟨d2, h2⟩ := id (ha2.sm s1)
      obtain ⟨e2, g2⟩ := id (hb2.sm s1)
      refine ⟨_, rfl, a, CL, dx, _, _, rfl, s1 _ _ ha, cl, AL.a4, rfl, _, rfl, b, CL, dy, _, _, rfl, s1 _ _ hb, cl, AL.a4, rfl, .inr ⟨a2, b2, _, d2, e2, _, _, rfl, rfl, h2, g2, ⟨p', q', false, false, ha2.sm s1, hb2.sm s1, op.2, oq.2, rfl⟩, fun H2 s2 => ?_⟩⟩
      refine ⟨_, rfl, ?_⟩
      have s3 := Same.trans s1 s2
      rw [Bool.bne_false]
      cases c2 : eqT (.pl p' false) (.pl q' false) with
      | false =>
        rw [c2, Bool.false_and] at k
        exact ifF (k H2 s3)
      | true =>
        rw [c2, Bool.true_and] at k
        refine ifT ?_
        refine ⟨_, rfl, a, CL, dx, _, _, rfl, s3 _ _ ha, cl, AL.a5, rfl, _, rfl, b, CL, dy, _, _, rfl, s3 _ _ hb, cl, AL.a5, rfl, rfl, ?_⟩
        rw [dB]
        exact k H2 s3

end
end Vf

set_option maxRecDepth 100000
set_option maxHeartbeats 4000000
namespace Vf
open PySem PySem.Spec PyProof.Rows L2 SX
section
variable {P : Program} {w : World} {K : PySem.W.Frag} {mg : Str → Option Value} {base : Heap}
theorem ok_eqF {f : Addr} {fd : FuncData} {q : Str} {CL : Addr} (AL : CaL K CL) (gc : mg "LineTest" = some (.ref CL)) (T : Tx K w mg) (F : C8.Fun K "__eq__" q s_LineTest_eq f fd) : FnOk P w K mg base C8.CX0 2 f fd ["self", "other"] (spEqF K CL) := by
  refine C8.fn0 F sc_LineTest_eq (fun vs H Q E h => ?_) (fun cdv A outer s H vs Q E hr h => ?_)
  · obtain ⟨a, y, dx, fs, t, rfl, _⟩ := h; rfl
  refine ⟨_, (pss_one (ps_ret (pe_and (pe_callB call_isi (by rfl) T.z_isinstance (by decide +kernel) (pa_cons (pv 1) (pa_cons (pe_cls (gc) rfl) pa_nil))) (pe_and (pe_cmpR op_eq (pe_fld (pv 0) rfl) (pe_fld (pv 1) rfl) (nomark _)) (pe_and (pe_cmpR (op_eqD hr.units) (pe_fld (pv 0) rfl) (pe_fld (pv 1) rfl) (nomark _)) (pe_and (pe_cmpR (op_eqD hr.units) (pe_fld (pv 0) rfl) (pe_fld (pv 1) rfl) (nomark _)) (pe_and (pe_cmpR (op_eqD hr.units) (pe_fld (pv 0) rfl) (pe_fld (pv 1) rfl) (nomark _)) (pe_one (pe_cmpR op_eq (pe_fld (pv 0) rfl) (pe_fld (pv 1) rfl) (nomark _)))))))))), ?_⟩
  obtain ⟨a, y, dx, fs, t, rfl, ha, ty, kt, q⟩ := h
  exact ⟨_, rfl, _, _, t, _, false, rfl, .own CL, ty, kt, _, rfl, ifF q⟩

end
end Vf

set_option maxRecDepth 100000
set_option maxHeartbeats 4000000
namespace Vf
open PySem PySem.Spec PyProof.Rows L2 SX
section
variable {P : Program} {w : World} {K : PySem.W.Frag} {mg : Str → Option Value} {base : Heap}
theorem ok_firstStep {f : Addr} {fd : FuncData} {CL CS : Addr} (F : C8.Def K mg "first_step" s_firstStep f fd) (b : Binds K fd ["old", "new"] []) (T : Tx K w mg) (MN_Step_old_new : MakN P w K mg base 1 "Step" CS (sp_Step_init CS) 1 ["old", "new"] gv_old_new) (C_checkExchange : CalX P w K mg base 4 "check_exchange" sp_checkExchange) : CalX P w K mg base 5 "first_step" (sp_firstStep CL CS) := by
  refine calX F b sc_firstStep (fun vs H Q E h => ?_) (fun cdv A outer s H vs Q E hr h => ?_)
  · obtain ⟨o, n, rfl, _⟩ := h; rfl
  have hu := hu_of hr
  refine ⟨_, (pss_cons (ps_expr (pe_cx C_checkExchange hr (by decide) rfl (takes_of rfl rfl rfl rfl) (pa_cons (pv 0) (pa_cons (pv 1) pa_nil))))
      (pss_one (ps_ret (pe_mkN MN_Step_old_new hr (by decide) rfl (pa_cons pe_str pa_nil) (pk_cons (pv 0) (pk_cons (pv 1) pk_nil)))))), ?_⟩

  obtain ⟨o, n, rfl, ho, hn, q⟩ := h
  refine ⟨_, rfl, _, rfl, o, n, rfl, ho, hn, fun H1 s1 => ?_⟩
  refine ⟨_, rfl, _, rfl, rfl, rfl, fun x dx hx hdx ne => ⟨x, dx, "first", .str (S o), .str (S n), .non, false, rfl, upd_same, rfl, ?_⟩⟩
  exact st_made (s := ⟨"first", some o, some n, false, none⟩) hx hdx ne rfl (q.at s1)

end
end Vf

set_option maxRecDepth 100000
set_option maxHeartbeats 4000000
namespace Vf
open PySem PySem.Spec PyProof.Rows L2 SX
section
variable {P : Program} {w : World} {K : PySem.W.Frag} {mg : Str → Option Value} {base : Heap}
theorem ok_growthOf {f : Addr} {fd : FuncData} {CR CD CG CL CS CC : Addr} (F : C8.Def K mg "growth_of" s_growthOf f fd) (b : Binds K fd ["step"] []) (T : Tx K w mg) (A0 : Ca K CR CD CG) (AL : CaL K CL) (AS : CaS K CS) (AC : CaC K CC) (FL : Fgn K CL) (FS : Fgn K CS) (FC : Fgn K CC) (FG : Fgn K CG) : C8.Cal P w K mg base 1 "growth_of" (sp_growthOf CS) [] := by
  refine C8.cal0 F b .nil sc_growthOf (fun vs H Q E h => ?_) (fun cdv A outer s H vs Q E hr h => ?_)
  · obtain ⟨a, dx, s, tv, rfl, _⟩ := h; rfl
  have hu := hu_of hr
  refine ⟨_, (pss_one (ps_match (pe_fld (pv 0) rfl) (mc_or (ss := ["replace", "first", "once"]) rfl (pss_one (ps_ret (pe_callB (call_max2 rfl) (by rfl) T.z_max (by decide +kernel) (pa_cons pe_int (pa_cons (pe_callB call_len (by rfl) T.z_len PySem.boot_len (pa_cons (pe_fld (pv 0) rfl) pa_nil)) pa_nil)))))
      (mc_or (ss := ["ahead", "behind"]) rfl (pss_one (ps_ret (pe_op op_add pe_int (pe_callB call_len (by rfl) T.z_len PySem.boot_len (pa_cons (pe_fld (pv 0) rfl) pa_nil)))))
      (mc_or (ss := ["above", "below"]) rfl (pss_one (ps_ret (pe_op op_add pe_int (pe_callB call_len (by rfl) T.z_len PySem.boot_len (pa_cons (pe_fld (pv 0) rfl) pa_nil)))))
      (mc_any (pss_one (ps_ret pe_int)))))))), ?_⟩

  obtain ⟨a, dx, s, tv, rfl, ha, ok, q⟩ := h
  have cl := AS.i.cl
  refine ⟨_, rfl, a, CS, dx, _, _, rfl, ha, cl, AS.a1, rfl, _, rfl, ?_⟩
  have fld : ∀ n, s.n = some n → (sF s tv).lookup ("new" : Str) = some (.str (S n)) := fun n hn => by
    show some (oV s.n) = _
    rw [hn]; rfl
  by_cases c1 : s.w ∈ (["replace", "first", "once"] : List Str)
  · obtain ⟨n, hn, hl⟩ := grN ok (.inl c1)
    have eg : grS s = max 1 n.length := by unfold grS; rw [if_pos c1, hn]; rfl
    refine ify (decide_eq_true c1) ⟨_, rfl, a, CS, dx, _, _, rfl, ha, cl, AS.a3, fld n hn, _, n.length, rfl, ⟨by rw [S_len]; exact szB (by omega), by rw [S_len]⟩, _, _, rfl, ?_⟩
    rw [show (if (n.length : Int) > 1 then (n.length : Int) else 1) = (grS s : Int) by rw [eg]; split <;> omega]
    exact q
  refine ifn (decide_eq_false c1) ⟨_, rfl, ?_⟩
  by_cases c2 : s.w ∈ (["ahead", "behind"] : List Str)
  · obtain ⟨n, hn, hl⟩ := grN ok (.inr (.inl c2))
    have eg : grS s = 1 + n.length := by unfold grS; rw [if_neg c1, if_pos c2, hn]; rfl
    refine ify (decide_eq_true c2) ⟨_, rfl, a, CS, dx, _, _, rfl, ha, cl, AS.a3, fld n hn, _, n.length, rfl, ⟨by rw [S_len]; exact szB (by omega), by rw [S_len]⟩, _, _, rfl, rfl, ?_⟩
    show Q (.int ((1 : Int) + (n.length : Int))) H
    rw [show (1 : Int) + (n.length : Int) = (grS s : Int) by rw [eg]; omega]
    exact q
  refine ifn (decide_eq_false c2) ⟨_, rfl, ?_⟩
  by_cases c3 : s.w ∈ (["above", "below"] : List Str)
  · obtain ⟨n, hn, hl⟩ := grN ok (.inr (.inr c3))
    have eg : grS s = 2 + n.length := by unfold grS; rw [if_neg c1, if_neg c2, if_pos c3, hn]; rfl
    refine ify (decide_eq_true c3) ⟨_, rfl, a, CS, dx, _, _, rfl, ha, cl, AS.a3, fld n hn, _, n.length, rfl, ⟨by rw [S_len]; exact szB (by omega), by rw [S_len]⟩, _, _, rfl, rfl, ?_⟩
    show Q (.int ((2 : Int) + (n.length : Int))) H
    rw [show (2 : Int) + (n.length : Int) = (grS s : Int) by rw [eg]; omega]
    exact q
  refine ifn (decide_eq_false c3) ?_
  have eg : grS s = 1 := by unfold grS; rw [if_neg c1, if_neg c2, if_neg c3]
  rw [eg] at q
  exact q

end
end Vf

set_option maxRecDepth 100000
set_option maxHeartbeats 4000000
namespace Vf
open PySem PySem.Spec PyProof.Rows L2 SX
section
variable {P : Program} {w : World} {K : PySem.W.Frag} {mg : Str → Option Value} {base : Heap}
theorem ok_init {f : Addr} {fd : FuncData} {q : Str} {CL : Addr} (AL : CaL K CL) (M : Mk K CL f) (g : mg "LineTest" = some (.ref CL)) (F : C8.Fun K "__init__" q s_LineTest_init f fd) (b : Binds K fd ["self", "word", "argument", "parts", "negated"] []) :
    C8.Mak P w K mg base 1 "LineTest" CL (sp_LineTest_init CL) [] := by
  refine C8.mak0 M g F b .nil sc_LineTest_init (fun vs H Q E h => ?_) (fun cdv A outer s H vs Q E hr h => ?_)
  · obtain ⟨a, dx, pa, k, g, x, y, n, rfl, _⟩ := h; rfl
  refine ⟨_, (pss_cons (ps_fld (pv 0) (pv 1) rfl)
      (pss_cons (ps_fld (pv 0) (pv 2) rfl)
      (pss_cons (ps_fld (pv 0) (pe_ix ix_tup (pv 3) pe_int (fun _ _ => rfl)) rfl)
      (pss_cons (ps_fld (pv 0) (pe_ix ix_tup (pv 3) pe_int (fun _ _ => rfl)) rfl)
      (pss_one (ps_fld (pv 0) (pv 4) rfl)))))), ?_⟩
  obtain ⟨a, dx, pa, k, g, x, y, n, rfl, ha, hp, q⟩ := h
  have ne : pa ≠ a := ne_of hp ha (fun z => nomatch z)
  have cl := AL.i.cl
  refine ⟨_, rfl, _, rfl, a, CL, dx, [], rfl, ha, cl, AL.a1, by decide, ?_⟩
  refine ⟨_, rfl, _, rfl, a, CL, dx, _, rfl, upd_same, cl, AL.a2, (by decide : (1 : Nat) < 1000), ?_⟩
  refine ⟨_, rfl, pa, [x, y], 0, _, rfl, rfl, SqT.of (by rw [upd_ne ne, upd_ne ne]; exact hp), rfl, _, rfl, a, CL, dx, _, rfl, upd_same, cl, AL.a3, (by decide : (2 : Nat) < 1000), ?_⟩
  refine ⟨_, rfl, pa, [x, y], 1, _, rfl, rfl, SqT.of (by rw [upd_ne ne, upd_ne ne, upd_ne ne]; exact hp), rfl, _, rfl, a, CL, dx, _, rfl, upd_same, cl, AL.a4, (by decide : (3 : Nat) < 1000), ?_⟩
  refine ⟨_, rfl, _, rfl, a, CL, dx, _, rfl, upd_same, cl, AL.a5, (by decide : (4 : Nat) < 1000), ?_⟩
  show Q .non _
  rw [upd_upd, upd_upd, upd_upd, upd_upd]
  exact q

end
end Vf

set_option maxRecDepth 100000
set_option maxHeartbeats 4000000
namespace Vf
open PySem PySem.Spec PyProof.Rows L2 SX
section
variable {P : Program} {w : World} {K : PySem.W.Frag} {mg : Str → Option Value} {base : Heap}
theorem ok_isKind {f : Addr} {fd : FuncData} (F : C8.Def K mg "is_kind" s_isKind f fd) (b : Binds K fd ["value"] []) (T : Tx K w mg)  : C8.Cal P w K mg base 1 "is_kind" (sp_isKind K) [] := by
  refine C8.cal0 F b .nil sc_isKind (fun vs H Q E h => ?_) (fun cdv A outer s H vs Q E hr h => ?_)
  · obtain ⟨rfl, _⟩ := h; rfl
  have hu := hu_of hr
  refine ⟨_, (pss_one (ps_ret (pe_and (pe_callB call_isi (by rfl) T.z_isinstance (by decide +kernel) (pa_cons (pv 0) (pa_cons (pe_bltn (v := .ty "str") (by rfl) T.z_str (by decide +kernel) rfl) pa_nil))) (pe_one (pe_cmpR (op_inKD (K := K) (w := w) rfl rfl) (pv 0) (C8.pe_gc rfl (Classical.choose_spec T.g_KIND_LETTERS).1) rfl))))), ?_⟩

  obtain ⟨rfl, q⟩ := h
  have hk := Classical.choose_spec T.g_KIND_LETTERS
  refine ⟨_, rfl, _, _, _, _, true, rfl, .ty "str", .base (.str _), kit_ty (by decide +kernel), _, rfl, ifT ?_⟩
  refine ⟨_, rfl, _, _, _, rfl, rfl, hk.2, ?_⟩
  rw [show (kd_KIND_LETTERS (Str.ofString "code")).isSome = true from by decide +kernel]
  exact q

end
end Vf

set_option maxRecDepth 100000
set_option maxHeartbeats 4000000
namespace Vf
open PySem PySem.Spec PyProof.Rows L2 SX
section
variable {P : Program} {w : World} {K : PySem.W.Frag} {mg : Str → Option Value} {base : Heap}
theorem ok_isText {f : Addr} {fd : FuncData} (F : C8.Def K mg "is_text" s_isText f fd) (b : Binds K fd ["value"] []) (T : Tx K w mg)  : C8.Cal P w K mg base 1 "is_text" (sp_isText K) [] := by
  refine C8.cal0 F b .nil sc_isText (fun vs H Q E h => ?_) (fun cdv A outer s H vs Q E hr h => ?_)
  · obtain ⟨x, rfl, _⟩ := h; rfl
  have hu := hu_of hr
  refine ⟨_, (pss_one (ps_ret (pe_and (pe_callB call_isi (by rfl) T.z_isinstance (by decide +kernel) (pa_cons (pv 0) (pa_cons (pe_bltn (v := .ty "str") (by rfl) T.z_str (by decide +kernel) rfl) pa_nil))) (pe_one (pe_callB (cr_all rfl) (by rfl) T.z_all (by decide +kernel) (pa_cons (pe_lc (own := [("sign", 1)]) (g := (gName 1)) (tt := tYes) rfl sc_isText.nd (pi_str (pv 0)) (blkOk_by (N := N_isText) (sc := C8.fnScope s_isText) (by decide +kernel)) (fun _ _ _ _ _ => pg_name (i := 1) sc_isText.nd rfl (Or.inl rfl)) (fun _ _ _ _ _ => pts_nil) (fun _ _ _ _ _ => (pe_cmpR op_in_sign (pv 1) (C8.pe_gc rfl T.g_SIGNS) rfl))) pa_nil)))))), ?_⟩

  obtain ⟨x, rfl, h⟩ := h
  rcases h with ⟨l, rfl, hl, q⟩ | ⟨⟨t, ty, ek⟩, q⟩
  · refine ⟨_, rfl, _, _, _, _, true, rfl, .ty "str", .base (.str _), kit_ty (by decide +kernel), true, rfl, ?_⟩
    rw [if_pos rfl]
    refine ⟨_, rfl, _, rfl, fun D hD => ?_⟩
    refine lc_it (walk_str (z := S l)) (fun i H' => H' = upd H D (.lst ((l.take i).map fun c => V.bl (isS c)))) rfl (fun _ _ _ _ => trivial) (fun i x H1 H2 hi e y => ?_) (fun H1 e => ?_)
    · obtain ⟨eH, c, hc, rfl⟩ := y
      subst eH
      have hc' : l[i]? = some c := by simpa using hc
      refine ⟨rfl, ?_⟩
      dsimp only [tYes]
      rw [if_pos rfl]
      refine ⟨_, rfl, c, S signsL, rfl, rfl, ?_⟩
      subst e
      refine ⟨_, upd_same, szL (by rw [List.length_map, List.length_take]; omega), ?_⟩
      rw [upd_upd, List.take_add_one, hc']
      simp [isS]
    · subst e
      refine ⟨D, l.map isS, rfl, SqL.of (by rw [upd_same]; simp [List.take_length]), ?_⟩
      rw [List.all_map]
      exact q _ (same_new (fun _ _ z => z) hD _) (Ks.new1 hD _)
  · refine ⟨_, rfl, _, _, _, _, false, rfl, .ty "str", ty, ek, false, rfl, ?_⟩
    rw [if_neg Bool.false_ne_true]
    exact q

end
end Vf

set_option maxRecDepth 100000
set_option maxHeartbeats 4000000
namespace Vf
open PySem PySem.Spec PyProof.Rows L2 SX
section
variable {P : Program} {w : World} {K : PySem.W.Frag} {mg : Str → Option Value} {base : Heap}
theorem ok_isPatch {f : Addr} {fd : FuncData} (F : C8.Def K mg "is_patch" s_isPatch f fd) (b : Binds K fd ["value"] []) (T : Tx K w mg) (C_isText : C8.Cal P w K mg base 1 "is_text" (sp_isText K) []) : C8.Cal P w K mg base 2 "is_patch" (sp_isPatch K) [] := by
  refine C8.cal0 F b .nil sc_isPatch (fun vs H Q E h => ?_) (fun cdv A outer s H vs Q E hr h => ?_)
  · obtain ⟨x, rfl, _⟩ := h; rfl
  have hu := hu_of hr
  refine ⟨_, (pss_one (ps_ret (pe_and (C8.pe_c C_isText hr (by decide) rfl (pa_cons (pv 0) pa_nil)) (pe_one (pe_cmpR op_le (pe_callB call_len (by rfl) T.z_len PySem.boot_len (pa_cons (pv 0) pa_nil)) (C8.pe_gc rfl T.g_LONGEST_WORD) (nomark _)))))), ?_⟩

  obtain ⟨x, rfl, h⟩ := h
  rcases h with ⟨l, rfl, hl, q⟩ | ⟨n, q⟩
  · refine ⟨_, rfl, _, rfl, .inl ⟨l, rfl, hl, fun H' k1 k2 => ⟨_, rfl, ?_⟩⟩⟩
    have q' := q H' k1
    by_cases e : l.all isS = true
    · rw [if_pos e]
      rw [e, Bool.true_and] at q'
      refine ⟨_, rfl, _, l.length, rfl, ⟨by rw [S_len]; exact szB (by omega), by rw [S_len]⟩, _, _, rfl, rfl, ?_⟩
      show Q (.bl (decide ((l.length : Int) ≤ 6))) H'
      rw [show decide ((l.length : Int) ≤ 6) = decide (l.length ≤ 6) from decide_eq_decide.mpr (by omega)]
      exact q'
    · rw [if_neg e]
      rw [Bool.eq_false_iff.mpr e, Bool.false_and] at q'
      exact q'
  · refine ⟨_, rfl, _, rfl, .inr ⟨n, _, rfl, ?_⟩⟩
    rw [if_neg Bool.false_ne_true]
    exact q

end
end Vf

set_option maxRecDepth 100000
set_option maxHeartbeats 4000000
namespace Vf
open PySem PySem.Spec PyProof.Rows L2 SX
section
variable {P : Program} {w : World} {K : PySem.W.Frag} {mg : Str → Option Value} {base : Heap}
theorem ok_isLineWord {f : Addr} {fd : FuncData} (F : C8.Def K mg "is_line_word" s_isLineWord f fd) (b : Binds K fd ["value"] []) (T : Tx K w mg) (C_isPatch : C8.Cal P w K mg base 2 "is_patch" (sp_isPatch K) []) : C8.Cal P w K mg base 3 "is_line_word" (sp_isLineWord K) [] := by
  refine C8.cal0 F b .nil sc_isLineWord (fun vs H Q E h => ?_) (fun cdv A outer s H vs Q E hr h => ?_)
  · obtain ⟨x, rfl, _⟩ := h; rfl
  have hu := hu_of hr
  refine ⟨_, (pss_one (ps_ret (pe_and (C8.pe_c C_isPatch hr (by decide) rfl (pa_cons (pv 0) pa_nil)) (pe_one (pe_cmpR op_notIn_sign pe_str (pv 0) rfl))))), ?_⟩

  obtain ⟨x, rfl, h⟩ := h
  rcases h with ⟨l, rfl, hl, q⟩ | ⟨n, q⟩
  · refine ⟨_, rfl, _, rfl, .inl ⟨l, rfl, hl, fun H' k1 => ⟨_, rfl, ?_⟩⟩⟩
    have q' := q H' k1
    unfold lw at q'
    by_cases e : (l.all isS && decide (l.length ≤ 6)) = true
    · rw [if_pos e]
      rw [e, Bool.true_and] at q'
      refine ⟨_, rfl, 10, S l, rfl, rfl, ?_⟩
      simpa using q'
    · rw [if_neg e]
      rw [Bool.eq_false_iff.mpr e, Bool.false_and] at q'
      exact q'
  · refine ⟨_, rfl, _, rfl, .inr ⟨n, _, rfl, ?_⟩⟩
    rw [if_neg Bool.false_ne_true]
    exact q

end
end Vf

set_option maxRecDepth 100000
set_option maxHeartbeats 4000000
namespace Vf
open PySem PySem.Spec PyProof.Rows L2 SX
section
variable {P : Program} {w : World} {K : PySem.W.Frag} {mg : Str → Option Value} {base : Heap}
theorem ok_isMark {f : Addr} {fd : FuncData} (F : C8.Def K mg "is_mark" s_isMark f fd) (b : Binds K fd ["word"] []) (T : Tx K w mg)  : C8.Cal P w K mg base 1 "is_mark" sp_isMark [] := by
  refine C8.cal0 F b .nil sc_isMark (fun vs H Q E h => ?_) (fun cdv A outer s H vs Q E hr h => ?_)
  · obtain ⟨w, rfl, _⟩ := h; rfl
  have hu := hu_of hr
  refine ⟨_, (pss_one (ps_ret (pe_and (pe_chain op_le op_le pe_int (pe_callB call_len (by rfl) T.z_len PySem.boot_len (pa_cons (pv 0) pa_nil)) (C8.pe_gc rfl T.g_LONGEST_MARK)) (pe_one (pe_callB (cr_all rfl) (by rfl) T.z_all (by decide +kernel) (pa_cons (pe_lc (own := [("sign", 1)]) (g := (gName 1)) (tt := tYes) rfl sc_isMark.nd (pi_str (pv 0)) (blkOk_by (N := N_isMark) (sc := C8.fnScope s_isMark) (by decide +kernel)) (fun _ _ _ _ _ => pg_name (i := 1) sc_isMark.nd rfl (Or.inl rfl)) (fun _ _ _ _ _ => pts_nil) (fun _ _ _ _ _ => (pe_cmpR op_in_sign (pv 1) (C8.pe_gc rfl T.g_MARK_SIGNS) rfl))) pa_nil)))))), ?_⟩

  obtain ⟨w, rfl, hw, q⟩ := h
  have q0 := q H (fun _ _ z => z)
  refine ⟨_, rfl, _, w.length, rfl, ⟨szB (by omega), rfl⟩, _, _, rfl, rfl, _, rfl, ?_⟩
  have e1 : decide ((1 : Int) ≤ (w.length : Int)) = decide (1 ≤ w.length) := decide_eq_decide.mpr (by omega)
  rw [e1]
  have no : (decide (1 ≤ w.length) && decide (w.length ≤ 4)) = false → isMk w = false := fun z => by rw [isMk_lt, z, Bool.false_and]
  by_cases c1 : 1 ≤ w.length
  · refine ify (decide_eq_true c1) ⟨_, _, rfl, rfl, _, rfl, ?_⟩
    have e2 : decide ((w.length : Int) ≤ (4 : Int)) = decide (w.length ≤ 4) := decide_eq_decide.mpr (by omega)
    rw [e2]
    by_cases c2 : w.length ≤ 4
    · refine ify (decide_eq_true c2) ⟨_, rfl, _, rfl, fun D hD => ?_⟩
      have hz : w.cps.size = w.length := rfl
      refine lc_it (walk_str (z := w)) (fun i H' => H' = upd H D (.lst (((TL.tl w).take i).map fun c => V.bl (decide (c ∈ mkL))))) rfl (fun _ _ _ _ => trivial) (fun i x H1 H2 hi e y => ?_) (fun H1 e => ?_)
      · obtain ⟨eH, c, hc, rfl⟩ := y
        subst eH
        have hc' : (TL.tl w)[i]? = some c := by rw [← hc]; exact Array.getElem?_toList
        refine ⟨rfl, ?_⟩
        dsimp only [tYes]
        rw [if_pos rfl]
        refine ⟨_, rfl, c, S mkL, rfl, rfl, ?_⟩
        subst e
        refine ⟨_, upd_same, szL (by rw [List.length_map, List.length_take]; omega), ?_⟩
        rw [upd_upd, List.take_add_one, hc']
        simp [mkL]
      · subst e
        refine ⟨D, (TL.tl w).map fun c => decide (c ∈ mkL), rfl, SqL.of (by rw [upd_same, List.take_of_length_le (by rw [← TL.len_tl]; exact Nat.le_of_eq hz.symm), List.map_map]; rfl), ?_⟩
        rw [List.all_map]
        have := q _ (same_new (fun _ _ z => z) hD (.lst (((TL.tl w).take w.cps.size).map fun c => V.bl (decide (c ∈ mkL)))))
        rw [isMk_lt, decide_eq_true c1, decide_eq_true c2] at this
        exact this
    · rw [no (by rw [decide_eq_false c2, Bool.and_false])] at q0
      exact ifn (decide_eq_false c2) q0
  · rw [no (by rw [decide_eq_false c1, Bool.false_and])] at q0
    exact ifn (decide_eq_false c1) ⟨_, rfl, ifF q0⟩

end
end Vf

set_option maxRecDepth 100000
set_option maxHeartbeats 4000000
namespace Vf
open PySem PySem.Spec PyProof.Rows L2 SX
section
variable {P : Program} {w : World} {K : PySem.W.Frag} {mg : Str → Option Value} {base : Heap}
theorem ok_isPlain {f : Addr} {fd : FuncData} {CL : Addr} (F : C8.Def K mg "is_plain" s_isPlain f fd) (b : Binds K fd ["value"] []) (T : Tx K w mg) (G_LineTest : mg "LineTest" = some (.ref CL)) (AL : CaL K CL) : C8.Cal P w K mg base 1 "is_plain" (sp_isPlain K CL) [] := by
  refine C8.cal0 F b .nil sc_isPlain (fun vs H Q E h => ?_) (fun cdv A outer s H vs Q E hr h => ?_)
  · obtain ⟨x, rfl, _⟩ := h; rfl
  have hu := hu_of hr
  refine ⟨_, (pss_one (ps_ret (pe_and (pe_callB call_isi (by rfl) T.z_isinstance (by decide +kernel) (pa_cons (pv 0) (pa_cons (pe_cls (G_LineTest) rfl) pa_nil))) (pe_and (pe_cmpR op_ne (pe_fld (pv 0) rfl) pe_str (nomark _)) (pe_one (pe_not (pe_fld (pv 0) rfl))))))), ?_⟩

  obtain ⟨x, rfl, h⟩ := h
  rcases h with ⟨hn, q⟩ | ⟨a, dx, p, u, v, rfl, ha, hp, q⟩
  · rcases hn with ⟨t, ty, e⟩ | ⟨a, dx, p, u, v, n, rfl, ha, hp⟩
    · refine ⟨_, rfl, _, _, _, _, false, rfl, .own CL, ty, e, false, rfl, ?_⟩
      rw [if_neg Bool.false_ne_true]
      exact q
    · refine ⟨_, rfl, _, _, _, _, true, rfl, .own CL, .base (TyOf.ins ha AL.i.cl AL.i.ha AL.i.hn AL.i.htk AL.i.hm), AL.i.me, true, rfl, ?_⟩
      rw [if_pos rfl]
      refine ⟨_, rfl, a, CL, dx, _, _, rfl, ha, AL.i.cl, AL.a1, rfl, rfl, _, rfl, ?_⟩
      by_cases e : p.1 = "from"
      · rw [if_neg (by rw [e]; decide)]
        exact q
      · rw [if_pos (by rw [show decide (V.str p.1 = V.str "from") = false from decide_eq_false fun z => e (V.str.inj z)]; rfl)]
        refine ⟨_, rfl, a, CL, dx, _, _, rfl, ha, AL.i.cl, AL.a5, rfl, n, rfl, ?_⟩
        rcases hp with z | z
        · exact absurd z e
        · rw [z]; exact q
  · refine ⟨_, rfl, _, _, _, _, true, rfl, .own CL, .base (TyOf.ins ha AL.i.cl AL.i.ha AL.i.hn AL.i.htk AL.i.hm), AL.i.me, true, rfl, ?_⟩
    rw [if_pos rfl]
    refine ⟨_, rfl, a, CL, dx, _, _, rfl, ha, AL.i.cl, AL.a1, rfl, rfl, _, rfl, ?_⟩
    rw [if_pos (by rw [show decide (V.str p.1 = V.str "from") = false from decide_eq_false fun z => hp (V.str.inj z)]; rfl)]
    exact ⟨_, rfl, a, CL, dx, _, _, rfl, ha, AL.i.cl, AL.a5, rfl, false, rfl, q⟩

end
end Vf

set_option maxRecDepth 100000
set_option maxHeartbeats 4000000
namespace Vf
open PySem PySem.Spec PyProof.Rows L2 SX
section
variable {P : Program} {w : World} {K : PySem.W.Frag} {mg : Str → Option Value} {base : Heap}
theorem ok_isWhole {f : Addr} {fd : FuncData} (F : C8.Def K mg "is_whole" s_isWhole f fd) (b : Binds K fd ["value"] []) (T : Tx K w mg)  : C8.Cal P w K mg base 1 "is_whole" (sp_isWhole K) [] := by
  refine C8.cal0 F b .nil sc_isWhole (fun vs H Q E h => ?_) (fun cdv A outer s H vs Q E hr h => ?_)
  · obtain ⟨x, r, rfl, _⟩ := h; rfl
  have hu := hu_of hr
  refine ⟨_, (pss_one (ps_ret (pe_and (pe_callB call_isi (by rfl) T.z_isinstance (by decide +kernel) (pa_cons (pv 0) (pa_cons (pe_bltn (v := .ty "int") (by rfl) T.z_int (by decide +kernel) rfl) pa_nil))) (pe_one (pe_not (pe_callB call_isi (by rfl) T.z_isinstance (by decide +kernel) (pa_cons (pv 0) (pa_cons (pe_bltn (v := .ty "bool") (by rfl) T.z_bool (by decide +kernel) rfl) pa_nil)))))))), ?_⟩

  obtain ⟨x, r, rfl, ⟨t, b1, b2, ty, e1, e2, rfl⟩, q⟩ := h
  refine ⟨_, rfl, _, _, _, _, b1, rfl, .ty "int", ty, e1, b1, rfl, ?_⟩
  cases b1 with
  | true =>
    rw [if_pos rfl]
    exact ⟨_, rfl, _, _, _, _, b2, rfl, .ty "bool", ty, e2, b2, rfl, q⟩
  | false =>
    rw [if_neg Bool.false_ne_true]
    exact q

end
end Vf

set_option maxRecDepth 100000
set_option maxHeartbeats 4000000
namespace Vf
open PySem PySem.Spec PyProof.Rows L2 SX
section
variable {P : Program} {w : World} {K : PySem.W.Frag} {mg : Str → Option Value} {base : Heap}
theorem whole_int {K : PySem.W.Frag} {H : Hp} (i : Int) : Whole K H (.int i) true := ⟨_, true, false, .base (.int i), kit_ty (by decide +kernel), kit_ty (by decide +kernel), rfl⟩
theorem ok_isWithin {f : Addr} {fd : FuncData} (F : C8.Def K mg "is_within" s_isWithin f fd) (b : Binds K fd ["value", "bounds"] []) (T : Tx K w mg) (C_isWhole : C8.Cal P w K mg base 1 "is_whole" (sp_isWhole K) []) : C8.Cal P w K mg base 2 "is_within" (sp_isWithin K) [] := by
  refine C8.cal0 F b .nil sc_isWithin (fun vs H Q E h => ?_) (fun cdv A outer s H vs Q E hr h => ?_)
  · obtain ⟨x, a, lo, hi, rfl, _⟩ := h; rfl
  have hu := hu_of hr
  refine ⟨_, (pss_one (ps_ret (pe_and (C8.pe_c C_isWhole hr (by decide) rfl (pa_cons (pv 0) pa_nil)) (pe_one (pe_chain op_le op_le (pe_ix ix_tup (pv 1) pe_int (fun _ _ => rfl)) (pv 0) (pe_ix ix_tup (pv 1) pe_int (fun _ _ => rfl))))))), ?_⟩

  obtain ⟨x, a, lo, hi, rfl, ha, h⟩ := h
  rcases h with ⟨hw, q⟩ | ⟨i, rfl, q⟩
  · refine ⟨_, rfl, x, false, rfl, hw, _, rfl, ?_⟩
    rw [if_neg Bool.false_ne_true]
    exact q
  · refine ⟨_, rfl, _, true, rfl, whole_int i, _, rfl, ?_⟩
    rw [if_pos rfl]
    refine ⟨_, rfl, a, _, 0, _, rfl, rfl, ha, rfl, _, rfl, _, _, rfl, rfl, _, rfl, ?_⟩
    by_cases e : lo ≤ i
    · rw [if_pos (decide_eq_true e)]
      rw [decide_eq_true e, Bool.true_and] at q
      exact ⟨_, rfl, a, _, 1, _, rfl, rfl, ha, rfl, _, _, rfl, rfl, q⟩
    · rw [if_neg (fun z => e (of_decide_eq_true z))]
      rw [decide_eq_false e, Bool.false_and] at q
      exact q

end
end Vf

set_option maxRecDepth 100000
set_option maxHeartbeats 4000000
namespace Vf
open PySem PySem.Spec PyProof.Rows L2 SX
section
variable {P : Program} {w : World} {K : PySem.W.Frag} {mg : Str → Option Value} {base : Heap}
theorem wd_all {l : List Nat} (h : WdOk l) : (l.all isS && true) = true := by rw [h.1.1]; rfl
theorem ok_isWord {f : Addr} {fd : FuncData} (F : C8.Def K mg "is_word" s_isWord f fd) (b : Binds K fd ["value"] []) (T : Tx K w mg) (C_isText : C8.Cal P w K mg base 1 "is_text" (sp_isText K) []) : C8.Cal P w K mg base 2 "is_word" (sp_isWord K) [] := by
  refine C8.cal0 F b .nil sc_isWord (fun vs H Q E h => ?_) (fun cdv A outer s H vs Q E hr h => ?_)
  · obtain ⟨l, rfl, _⟩ := h; rfl
  have hu := hu_of hr
  refine ⟨_, (pss_one (ps_ret (pe_and (C8.pe_c C_isText hr (by decide) rfl (pa_cons (pv 0) pa_nil)) (pe_one (pe_chain op_le op_le pe_int (pe_callB call_len (by rfl) T.z_len PySem.boot_len (pa_cons (pv 0) pa_nil)) (C8.pe_gc rfl T.g_LONGEST_WORD)))))), ?_⟩

  obtain ⟨l, rfl, ok, q⟩ := h
  refine ⟨_, rfl, _, rfl, .inl ⟨l, rfl, by have := ok.1.2; omega, fun H1 s1 k1 => ⟨_, rfl, ?_⟩⟩⟩
  rw [ok.1.1]
  refine ifT ?_
  have l6 := ok.1.2
  have l1 := ok.2
  refine ⟨_, rfl, _, l.length, rfl, ⟨by rw [S_len]; exact szB (by omega), by rw [S_len]⟩, _, _, rfl, rfl, _, rfl, ?_⟩
  refine ify (decide_eq_true (by omega)) ⟨_, _, rfl, rfl, ?_⟩
  show Q (.bl (decide ((l.length : Int) ≤ 6))) H1
  rw [decide_eq_true (show (l.length : Int) ≤ 6 by omega)]
  exact q H1 s1

end
end Vf

set_option maxRecDepth 100000
set_option maxHeartbeats 4000000
namespace Vf
open PySem PySem.Spec PyProof.Rows L2 SX
section
variable {P : Program} {w : World} {K : PySem.W.Frag} {mg : Str → Option Value} {base : Heap}
theorem ok_keepStep {f : Addr} {fd : FuncData} {CL CS : Addr} (F : C8.Def K mg "keep_step" s_keepStep f fd) (b : Binds K fd ["test"] []) (T : Tx K w mg) (MN_Step_test : MakN P w K mg base 1 "Step" CS (sp_Step_init CS) 1 ["test"] gv_test) (C_checkTest : CalX P w K mg base 3 "check_test" (sp_checkTest CL)) : CalX P w K mg base 4 "keep_step" (sp_keepStep CL CS) := by
  refine calX F b sc_keepStep (fun vs H Q E h => ?_) (fun cdv A outer s H vs Q E hr h => ?_)
  · obtain ⟨c, t, rfl, _⟩ := h; rfl
  have hu := hu_of hr
  refine ⟨_, (pss_cons (ps_expr (pe_cx C_checkTest hr (by decide) rfl (takes_of rfl rfl rfl rfl) (pa_cons (pv 0) pa_nil)))
      (pss_one (ps_ret (pe_mkN MN_Step_test hr (by decide) rfl (pa_cons pe_str pa_nil) (pk_cons (pv 0) pk_nil))))), ?_⟩

  obtain ⟨c, t, rfl, ht, q⟩ := h
  refine ⟨_, rfl, c, t, rfl, ht, ?_⟩
  refine ⟨_, rfl, rfl, rfl, fun x dx hx hdx ne => ⟨x, dx, "keep", .non, .non, .ref c, false, rfl, upd_same, rfl, ?_⟩⟩
  exact st_made (s := ⟨"keep", none, none, false, some t⟩) hx hdx ne ⟨c, rfl, ht⟩ q

end
end Vf

set_option maxRecDepth 100000
set_option maxHeartbeats 4000000
namespace Vf
open PySem PySem.Spec PyProof.Rows L2 SX
section
variable {P : Program} {w : World} {K : PySem.W.Frag} {mg : Str → Option Value} {base : Heap}
theorem ok_lawGrowth {f : Addr} {fd : FuncData} (F : C8.Def K mg "_law_growth" s_lawGrowth f fd) (b : Binds K fd ["_law_steps"] []) (T : Tx K w mg)  : C8.Cal P w K mg base 1 "_law_growth" sp_lawGrowth [] := by
  refine C8.cal0 F b .nil sc_lawGrowth (fun vs H Q E h => ?_) (fun cdv A outer s H vs Q E hr h => ?_)
  · obtain ⟨L, xs, its, rfl, _⟩ := h; rfl
  have hu := hu_of hr
  refine ⟨_, (pss_cons (ps_set (i := 1) sc_lawGrowth.nd rfl (Or.inl rfl) pe_int)
      (pss_cons (ps_for PassesOwn.never rfl (pi_list (pv 0)) (pg_tup rfl (pgs_cons (pg_name (i := 2) sc_lawGrowth.nd rfl (Or.inl rfl)) (pgs_cons (pg_name (i := 3) sc_lawGrowth.nd rfl (Or.inl rfl)) (pgs_cons (pg_name (i := 4) sc_lawGrowth.nd rfl (Or.inl rfl)) (pgs_cons (pg_name (i := 5) sc_lawGrowth.nd rfl (Or.inl rfl)) (pgs_cons (pg_name (i := 6) sc_lawGrowth.nd rfl (Or.inl rfl)) (pgs_cons (pg_name (i := 7) sc_lawGrowth.nd rfl (Or.inl rfl)) pgs_nil)))))))
      (pss_one (ps_if (pt_cmpR op_in_seq (pv 2) (pe_lst (pa_cons pe_str (pa_cons pe_str (pa_cons pe_str pa_nil)))) rfl)
      (pss_one (ps_set (i := 1) sc_lawGrowth.nd rfl (Or.inl rfl) (pe_op op_mul (pv 1) (pe_callB (call_max2 rfl) (by rfl) T.z_max (by decide +kernel) (pa_cons pe_int (pa_cons (pe_callB call_len (by rfl) T.z_len PySem.boot_len (pa_cons (pv 4) pa_nil)) pa_nil))))))
      (pss_one (ps_if (pt_cmpR op_in_seq (pv 2) (pe_lst (pa_cons pe_str (pa_cons pe_str pa_nil))) rfl)
      (pss_one (ps_set (i := 1) sc_lawGrowth.nd rfl (Or.inl rfl) (pe_op op_mul (pv 1) (pe_op op_add pe_int (pe_callB call_len (by rfl) T.z_len PySem.boot_len (pa_cons (pv 4) pa_nil))))))
      (pss_one (ps_if (pt_cmpR op_in_seq (pv 2) (pe_lst (pa_cons pe_str (pa_cons pe_str pa_nil))) rfl)
      (pss_one (ps_set (i := 1) sc_lawGrowth.nd rfl (Or.inl rfl) (pe_op op_mul (pv 1) (pe_op op_add pe_int (pe_callB call_len (by rfl) T.z_len PySem.boot_len (pa_cons (pv 4) pa_nil))))))
      pss_nil)))))))
      (pss_one (ps_ret (pv 1))))), ?_⟩

  obtain ⟨L, xs, its, rfl, hL, hi, hl, hno, q⟩ := h
  obtain ⟨l1, ha⟩ := id hi
  refine ⟨_, rfl, L, rfl, ⟨_, SqL.of hL⟩, ?_⟩
  refine for_list (K := K) (a := L) (xs := xs) (fun i σ H' => Same H H' ∧ ∃ (v2 v3 v4 v5 v6 v7 : Option V), σ = [some (.ref L), some (.int (grA (its.take i) : Int)), v2, v3, v4, v5, v6, v7]) ?_ (fun i σ H' _ z => SqL.of (z.1 _ _ hL)) ?_ ?_
  · exact ⟨fun _ _ z => z, none, none, none, none, none, none, rfl⟩
  · rintro i x σ H1 hx ⟨s1, v2, v3, v4, v5, v6, v7, rfl⟩
    have hil : i < its.length := by rw [← l1]; exact (List.getElem?_eq_some_iff.mp hx).1
    have hq : its[i]? = some its[i] := List.getElem?_eq_getElem hil
    obtain ⟨hv, ok⟩ := ha i x _ hx hq
    have nn := hno its[i] (List.getElem_mem hil)
    generalize its[i] = it at hq hv ok nn
    cases it with
    | no v => cases nn
    | st s =>
      obtain ⟨a, rfl, cv, e, _⟩ := hv
      have ok : OkS s := ok
      have eg : grA (its.take (i + 1)) = grA (its.take i) * grS s := by
        rw [List.take_add_one, hq]; exact grA_snoc _ _
      have hb : grA (its.take i) ≤ 16777216 := Nat.le_trans (grA_le fun x hx => by
        obtain ⟨j, hj, rfl⟩ := List.mem_iff_getElem.mp (List.mem_of_mem_take hx)
        have hj' : j < xs.length := by omega
        exact gr_le (ha j xs[j] its[j] (List.getElem?_eq_getElem hj') (List.getElem?_eq_getElem hj)).2) (Nat.le_trans (Nat.pow_le_pow_right (by decide) (show (its.take i).length ≤ 8 by rw [List.length_take]; omega)) (by decide))
      have g8 := grS_le ok
      refine ⟨a, _, rfl, SqT.of (s1 _ _ e), rfl, _, _, rfl, _, _, rfl, _, _, rfl, _, _, rfl, _, _, rfl, _, _, rfl, rfl, ?_⟩
      have inm : ∀ ws : List Str, inV (.str s.w) (ws.map V.str) = decide (s.w ∈ ws) := fun ws => inV_strs _ _
      refine ⟨_, rfl, szB (show 3 ≤ 1000000 by decide), fun L1 hL1 => ⟨L1, _, rfl, .inl (SqL.of upd_same), rfl, by decide, _, rfl, ?_⟩⟩
      have s2 : Same H _ := fun b o z => same1 hL1 (.lst [.str "replace", .str "first", .str "once"]) _ _ (s1 _ _ z)
      generalize upd H1 L1 (.lst [.str "replace", .str "first", .str "once"]) = H2 at s2 ⊢
      have lenn : ∀ (n : List Nat) (Hx : Hp), s.n = some n → n.length ≤ 6 → LenV K (oV s.n) Hx n.length := fun n Hx hn hl => by
        rw [hn]
        exact ⟨by rw [S_len]; exact szB (by omega), by rw [S_len]⟩
      by_cases c1 : s.w ∈ (["replace", "first", "once"] : List Str)
      · obtain ⟨n, hn, hl⟩ := grN ok (.inl c1)
        have ge : grS s = max 1 n.length := by unfold grS; rw [if_pos c1, hn]; rfl
        refine ify ((inm ["replace", "first", "once"]).trans (decide_eq_true c1)) ⟨_, rfl, _, rfl, _, n.length, rfl, lenn n _ hn hl, _, _, rfl, _, _, rfl, rfl, .inl ⟨by omega, by omega⟩, ?_⟩
        refine ⟨s2, some (.str s.w), some (oV s.o), some (oV s.n), some (kV s.k), some cv, some .non, ?_⟩
        rw [eg, ge, show ((grA (its.take i) * max 1 n.length : Nat) : Int) = (grA (its.take i) : Int) * (if (n.length : Int) > 1 then (n.length : Int) else 1) by rw [Int.natCast_mul]; congr 1; split <;> omega]
        first | done | rfl
      refine ifn ((inm ["replace", "first", "once"]).trans (decide_eq_false c1)) ?_
      refine ⟨_, rfl, szB (show 2 ≤ 1000000 by decide), fun L2 hL2 => ⟨L2, _, rfl, .inl (SqL.of upd_same), rfl, by decide, _, rfl, ?_⟩⟩
      have s3 : Same H _ := fun b o z => same1 hL2 (.lst [.str "ahead", .str "behind"]) _ _ (s2 _ _ z)
      generalize upd H2 L2 (.lst [.str "ahead", .str "behind"]) = H3 at s3 ⊢
      by_cases c2 : s.w ∈ (["ahead", "behind"] : List Str)
      · obtain ⟨n, hn, hl⟩ := grN ok (.inr (.inl c2))
        have ge : grS s = 1 + n.length := by unfold grS; rw [if_neg c1, if_pos c2, hn]; rfl
        refine ify ((inm ["ahead", "behind"]).trans (decide_eq_true c2)) ⟨_, rfl, _, rfl, _, n.length, rfl, lenn n _ hn hl, _, _, rfl, rfl, _, _, rfl, rfl, .inl ⟨by omega, by omega⟩, ?_⟩
        refine ⟨s3, some (.str s.w), some (oV s.o), some (oV s.n), some (kV s.k), some cv, some .non, ?_⟩
        rw [eg, ge, show ((grA (its.take i) * (1 + n.length) : Nat) : Int) = (grA (its.take i) : Int) * ((1 : Int) + (n.length : Int)) by rw [Int.natCast_mul]; congr 1]
        first | done | rfl
      refine ifn ((inm ["ahead", "behind"]).trans (decide_eq_false c2)) ?_
      refine ⟨_, rfl, szB (show 2 ≤ 1000000 by decide), fun L3 hL3 => ⟨L3, _, rfl, .inl (SqL.of upd_same), rfl, by decide, _, rfl, ?_⟩⟩
      have s4 : Same H _ := fun b o z => same1 hL3 (.lst [.str "above", .str "below"]) _ _ (s3 _ _ z)
      generalize upd H3 L3 (.lst [.str "above", .str "below"]) = H4 at s4 ⊢
      by_cases c3 : s.w ∈ (["above", "below"] : List Str)
      · obtain ⟨n, hn, hl⟩ := grN ok (.inr (.inr c3))
        have ge : grS s = 2 + n.length := by unfold grS; rw [if_neg c1, if_neg c2, if_pos c3, hn]; rfl
        refine ify ((inm ["above", "below"]).trans (decide_eq_true c3)) ⟨_, rfl, _, rfl, _, n.length, rfl, lenn n _ hn hl, _, _, rfl, rfl, _, _, rfl, rfl, .inl ⟨by omega, by omega⟩, ?_⟩
        refine ⟨s4, some (.str s.w), some (oV s.o), some (oV s.n), some (kV s.k), some cv, some .non, ?_⟩
        rw [eg, ge, show ((grA (its.take i) * (2 + n.length) : Nat) : Int) = (grA (its.take i) : Int) * ((2 : Int) + (n.length : Int)) by rw [Int.natCast_mul]; congr 1]
        first | done | rfl
      refine ifn ((inm ["above", "below"]).trans (decide_eq_false c3)) ?_
      have ge : grS s = 1 := by unfold grS; rw [if_neg c1, if_neg c2, if_neg c3]
      refine ⟨s4, some (.str s.w), some (oV s.o), some (oV s.n), some (kV s.k), some cv, some .non, ?_⟩
      rw [eg, ge, Nat.mul_one]
      first | done | rfl
  · rintro σ H1 ⟨s1, v2, v3, v4, v5, v6, v7, rfl⟩
    rw [List.take_of_length_le (by omega)]
    exact ⟨_, rfl, q H1 s1⟩

end
end Vf

set_option maxRecDepth 100000
set_option maxHeartbeats 4000000
namespace Vf
open PySem PySem.Spec PyProof.Rows L2 SX
section
variable {P : Program} {w : World} {K : PySem.W.Frag} {mg : Str → Option Value} {base : Heap}
theorem pick_v {v : V} (h : v ∈ ([.str "all", .str "begins", .str "ends", .str "has", .str "is", .str "short", .str "number", .str "last"] ++ [.str "has", .str "begins"] : List V)) : ∃ k, v = .str k ∧ (isW k ∨ (k = "short" ∨ k = "number") ∨ k = "all" ∨ k = "last") := by
  simp only [List.cons_append, List.nil_append, List.mem_cons, List.not_mem_nil, or_false] at h
  unfold isW
  rcases h with rfl | rfl | rfl | rfl | rfl | rfl | rfl | rfl | rfl | rfl <;> exact ⟨_, rfl, by simp⟩
theorem patch_ok {k : Str} {t sg : List Nat} (h : isW k) (hs : sgn sg) (h1 : t.length ≤ 6) (h2 : ∀ z ∈ t, z ∈ sg) : OkP (k, .str (S t)) := .wd h h1 fun c hc => hs c (h2 c hc)
theorem ok_lawPlainTest {f : Addr} {fd : FuncData} (F : C8.Def K mg "_law_plain_test" s_lawPlainTest f fd) (b : Binds K fd ["_law_pen_here", "_law_signs_here"] []) (T : Tx K w mg) (C_pick : C8.Cal P w K mg base 2 "_law_pick" sp_pick []) (C_patch : C8.Cal P w K mg base 4 "_law_patch" sp_patch []) (C_draw : C8.Cal P w K mg base 1 "_law_draw" sp_draw []) : C8.Cal P w K mg base 5 "_law_plain_test" sp_lawPlainTest [] := by
  refine C8.cal0 F b .nil sc_lawPlainTest (fun vs H Q E h => ?_) (fun cdv A outer s H vs Q E hr h => ?_)
  · obtain ⟨p, c, m, sg, rfl, _⟩ := h; rfl
  have hu := hu_of hr
  refine ⟨_, (pss_cons (ps_set (i := 2) sc_lawPlainTest.nd rfl (Or.inl rfl) (pe_lst (pa_cons pe_str (pa_cons pe_str (pa_cons pe_str (pa_cons pe_str (pa_cons pe_str (pa_cons pe_str (pa_cons pe_str (pa_cons pe_str pa_nil))))))))))
      (pss_cons (ps_par (i := 3) (j := 4) (by rfl) sc_lawPlainTest.nd rfl rfl (by decide) rfl rfl (pa_cons (C8.pe_c C_pick hr (by decide) rfl (pa_cons (pv 0) (pa_cons (pe_op op_cat (pv 2) (pe_lst (pa_cons pe_str (pa_cons pe_str pa_nil)))) pa_nil))) (pa_cons pe_non pa_nil)) (by rfl))
      (C8.pss_cut (ps_if (pt_cmpR op_in_seq (pv 3) (pe_lst (pa_cons pe_str (pa_cons pe_str (pa_cons pe_str (pa_cons pe_str pa_nil))))) rfl)
      (pss_one (ps_set (i := 4) sc_lawPlainTest.nd rfl (Or.inl rfl) (C8.pe_c C_patch hr (by decide) rfl (pa_cons (pv 0) (pa_cons (pv 1) (pa_cons pe_int pa_nil))))))
      pss_nil)
      (C8.pss_cut (ps_if (pt_cmpR op_in_seq (pv 3) (pe_lst (pa_cons pe_str (pa_cons pe_str pa_nil))) rfl)
      (pss_one (ps_set (i := 4) sc_lawPlainTest.nd rfl (Or.inl rfl) (pe_op op_add pe_int (C8.pe_c C_draw hr (by decide) rfl (pa_cons (pv 0) (pa_cons pe_int pa_nil))))))
      pss_nil)
      (pss_one (ps_ret (pe_tup (pa_cons (pv 3) (pa_cons (pv 4) (pa_cons pe_non (pa_cons pe_non (pa_cons pe_bl pa_nil)))))))))))), ?_⟩

  obtain ⟨p, c, m, sg, rfl, hp, hm, hs1, hs2, hsg, q⟩ := h
  refine ⟨szB (by decide), fun W hW => ?_⟩
  refine ⟨_, rfl, _, rfl, szB (by decide), fun Y hY => ?_⟩
  have nW : W ≠ Y := ne_of_none upd_same hY
  refine ⟨W, Y, _, _, rfl, rfl, by rw [upd_ne nW]; exact upd_same, upd_same, szB (by decide), fun Z hZ => ?_⟩
  refine ⟨p, c, m, _, rfl, ((hp.new hW).new hY).new hZ, by omega, .inr ⟨Z, _, rfl, upd_same, by decide, by decide, fun H1 v k1 k2 k3 => ?_⟩⟩
  obtain ⟨k, rfl, hk⟩ := pick_v k3
  have ks1 : Ks H H1 := (((Ks.new1 hW _).new hY _).new hZ _).trans k1
  refine ⟨_, _, rfl, ?_⟩
  refine ⟨fun σ' H' => ∃ g, σ' = [some (.ref p), some (.str (S sg)), some (.ref W), some (.str k), some g] ∧ PenAt H' p c (m + 9) ∧ Ks H H' ∧ ((isW k ∧ OkP (k, g)) ∨ ((k = "short" ∨ k = "number") ∧ g = .non) ∨ ((k = "all" ∨ k = "last") ∧ g = .non)), ?_, ?_⟩
  · refine ⟨_, rfl, szB (by decide), fun L hL => ?_⟩
    refine ⟨L, l4, rfl, .inl (SqL.of upd_same), rfl, by decide, _, rfl, ?_⟩
    have kL := ks1.new hL (.lst l4)
    have pL := k2.new (o := .lst l4) hL
    rcases hk with hk | hk | hk
    · rw [(cl_w hk).2.1]
      refine ify rfl ?_
      refine ⟨_, rfl, _, rfl, p, c, m + 1, 2, sg, rfl, pL, by omega, by decide, by decide, hs1, hs2, fun H2 t j1 j2 h1 h2 => ?_⟩
      exact ⟨_, rfl, j2.mono (by omega), kL.trans j1, .inl ⟨hk, patch_ok hk hsg (by omega) h2⟩⟩
    · rw [(cl_n hk).2.1]
      exact ifn rfl ⟨_, rfl, pL.mono (by omega), kL, .inr (.inl ⟨hk, rfl⟩)⟩
    · rw [(cl_b hk).2.1]
      exact ifn rfl ⟨_, rfl, pL.mono (by omega), kL, .inr (.inr ⟨hk, rfl⟩)⟩
  rintro σ' H2 ⟨g, rfl, p2, ks2, hk2⟩
  refine ⟨fun σ' H' => ∃ g, σ' = [some (.ref p), some (.str (S sg)), some (.ref W), some (.str k), some g] ∧ PenAt H' p c (m + 10) ∧ Ks H H' ∧ OkP (k, g), ?_, ?_⟩
  · refine ⟨_, rfl, szB (by decide), fun L hL => ?_⟩
    refine ⟨L, l2, rfl, .inl (SqL.of upd_same), rfl, by decide, _, rfl, ?_⟩
    have kL := ks2.new hL (.lst l2)
    have pL := p2.new (o := .lst l2) hL
    rcases hk2 with ⟨hk, ok⟩ | ⟨hk, rfl⟩ | ⟨hk, rfl⟩
    · rw [(cl_w hk).2.2.1]
      exact ifn rfl ⟨_, rfl, pL.mono (by omega), kL, ok⟩
    · rw [(cl_n hk).2.2.1]
      refine ify rfl ?_
      refine ⟨_, rfl, p, c, m + 9, 3, rfl, pL, by omega, by decide, by decide, fun H3 r j1 j2 hr3 => ?_⟩
      refine ⟨_, _, rfl, rfl, _, rfl, j2, kL.trans j1, ?_⟩
      have e : (1 : Int) + (r : Int) = ((1 + r : Nat) : Int) := by omega
      show OkP (k, .int ((1 : Int) + (r : Int)))
      rw [e]
      rcases hk with rfl | rfl
      · exact .sh (by omega)
      · exact .nu (by omega) (by omega)
    · rw [(cl_b hk).2.2.1]
      exact ifn rfl ⟨_, rfl, pL.mono (by omega), kL, .ba hk⟩
  rintro σ' H3 ⟨g, rfl, p3, ks3, ok⟩
  refine ⟨_, rfl, _, rfl, szB (by show 5 ≤ 1000000; decide), fun a ha => ?_⟩
  exact q _ a (k, g) (ks3.new ha _) (p3.new ha) ok upd_same

end
end Vf

set_option maxRecDepth 100000
set_option maxHeartbeats 4000000
namespace Vf
open PySem PySem.Spec PyProof.Rows L2 SX
section
variable {P : Program} {w : World} {K : PySem.W.Frag} {mg : Str → Option Value} {base : Heap}
theorem words_v {v : V} (h : v ∈ ([.str "replace", .str "replace", .str "replace", .str "first", .str "once", .str "drop", .str "keep", .str "ahead", .str "behind"] ++ [.str "above", .str "below", .str "strip"] : List V)) : ∃ k, v = .str k ∧ ((k = "replace" ∨ k = "first" ∨ k = "once") ∨ (k = "drop" ∨ k = "keep") ∨ (k = "ahead" ∨ k = "behind") ∨ (k = "above" ∨ k = "below") ∨ k = "strip") := by
  simp only [List.cons_append, List.nil_append, List.mem_cons, List.not_mem_nil, or_false] at h
  rcases h with rfl | rfl | rfl | rfl | rfl | rfl | rfl | rfl | rfl | rfl | rfl | rfl <;> exact ⟨_, rfl, by simp⟩
theorem sg_pt {sg t : List Nat} (h : ∀ z ∈ t, z ∈ sg) (hs : ∀ z ∈ sg, z ∈ signsL) (l : t.length ≤ 6) : PtOk t := ⟨List.all_eq_true.mpr fun z hz => decide_eq_true (hs z (h z hz)), l⟩
theorem st_in (k : Str) (ws : List Str) : inV (.str k) (ws.map V.str) = decide (k ∈ ws) := inV_strs k ws
theorem nl_S : (Str.ofString "\n") = S [10] := by decide +kernel
theorem in_nl {sg t : List Nat} {b : Bool} (h : ∀ z ∈ t, z ∈ sg ++ (if b = true then [10] else [])) (hs : ∀ z ∈ sg, z ∈ signsL) : ∀ z ∈ t, z ∈ signsL := fun z hz => by
  rcases List.mem_append.mp (h z hz) with y | y
  · exact hs z y
  · cases b with
    | false => cases y
    | true =>
      rw [if_pos rfl] at y
      rw [List.mem_singleton.mp y]; decide
theorem ok_lawStep {f : Addr} {fd : FuncData} (F : C8.Def K mg "_law_step" s_lawStep f fd) (b : Binds K fd ["_law_pen_here", "_law_signs_here"] []) (T : Tx K w mg) (C_pick : C8.Cal P w K mg base 2 "_law_pick" sp_pick []) (C_draw : C8.Cal P w K mg base 1 "_law_draw" sp_draw []) (C_patch : C8.Cal P w K mg base 4 "_law_patch" sp_patch []) (C_lawWord : C8.Cal P w K mg base 3 "_law_word" sp_lawWordT []) (C_lawTest : C8.Cal P w K mg base 6 "_law_test" sp_lawTest []) : C8.Cal P w K mg base 7 "_law_step" sp_lawStep [] := by
  refine C8.cal0 F b .nil sc_lawStep (fun vs H Q E h => ?_) (fun cdv A outer s H vs Q E hr h => ?_)
  · obtain ⟨p, c, m, sg, rfl, _⟩ := h; rfl
  have hu := hu_of hr
  refine ⟨_, (pss_cons (ps_set (i := 2) sc_lawStep.nd rfl (Or.inl rfl) (pe_lst (pa_cons pe_str (pa_cons pe_str (pa_cons pe_str (pa_cons pe_str (pa_cons pe_str (pa_cons pe_str (pa_cons pe_str (pa_cons pe_str (pa_cons pe_str pa_nil)))))))))))
      (pss_cons (ps_set (i := 3) sc_lawStep.nd rfl (Or.inl rfl) (C8.pe_c C_pick hr (by decide) rfl (pa_cons (pv 0) (pa_cons (pe_op op_cat (pv 2) (pe_lst (pa_cons pe_str (pa_cons pe_str (pa_cons pe_str pa_nil))))) pa_nil))))
      (pss_cons (ps_asg (pe_tup (pa_cons pe_non (pa_cons pe_non (pa_cons pe_non pa_nil)))) (pg_tup (by rfl) (pgs_cons (pg_name (i := 4) sc_lawStep.nd rfl (Or.inl rfl)) (pgs_cons (pg_name (i := 5) sc_lawStep.nd rfl (Or.inl rfl)) (pgs_cons (pg_name (i := 6) sc_lawStep.nd rfl (Or.inl rfl)) pgs_nil)))))
      (C8.pss_cut (ps_if (pt_cmpR op_in_seq (pv 3) (pe_lst (pa_cons pe_str (pa_cons pe_str (pa_cons pe_str pa_nil)))) rfl)
      (pss_cons (ps_set (i := 7) sc_lawStep.nd rfl (Or.inl rfl) (pe_op op_add_str (pv 1) (pe_op op_rep_str pe_str (pe_callTy call_int1 (by rfl) T.z_int (by decide +kernel) (pa_cons (pe_cmpR op_eq (C8.pe_c C_draw hr (by decide) rfl (pa_cons (pv 0) (pa_cons pe_int pa_nil))) pe_int (nomark _)) pa_nil)))))
      (pss_cons (ps_par (i := 4) (j := 5) (by rfl) sc_lawStep.nd rfl rfl (by decide) rfl rfl (pa_cons (C8.pe_c C_lawWord hr (by decide) rfl (pa_cons (pv 0) (pa_cons (pv 7) (pa_cons pe_int pa_nil)))) (pa_cons (C8.pe_c C_patch hr (by decide) rfl (pa_cons (pv 0) (pa_cons (pv 1) (pa_cons pe_int pa_nil)))) pa_nil)) (by rfl))
      (pss_one (ps_if (PW.pt (pw_and (pt_cmpR op_eq (pv 3) pe_str (nomark _)) (pw_and (pt_cmpR op_notIn_sign pe_str (pv 4) rfl) (pw_and1 (pt_cmpR op_eq (C8.pe_c C_draw hr (by decide) rfl (pa_cons (pv 0) (pa_cons pe_int pa_nil))) pe_int (nomark _))))))
      (pss_one (ps_set (i := 6) sc_lawStep.nd rfl (Or.inl rfl) (C8.pe_c C_lawTest hr (by decide) rfl (pa_cons (pv 0) (pa_cons (pv 1) pa_nil)))))
      pss_nil))))
      (pss_one (ps_set (i := 6) sc_lawStep.nd rfl (Or.inl rfl) (C8.pe_c C_lawTest hr (by decide) rfl (pa_cons (pv 0) (pa_cons (pv 1) pa_nil))))))
      (C8.pss_cut (ps_if (pt_cmpR op_in_seq (pv 3) (pe_lst (pa_cons pe_str (pa_cons pe_str pa_nil))) rfl)
      (pss_one (ps_set (i := 5) sc_lawStep.nd rfl (Or.inl rfl) (C8.pe_c C_lawWord hr (by decide) rfl (pa_cons (pv 0) (pa_cons (pv 1) (pa_cons pe_int pa_nil))))))
      pss_nil)
      (C8.pss_cut (ps_if (pt_cmpR op_in_seq (pv 3) (pe_lst (pa_cons pe_str (pa_cons pe_str pa_nil))) rfl)
      (pss_one (ps_set (i := 5) sc_lawStep.nd rfl (Or.inl rfl) (C8.pe_c C_patch hr (by decide) rfl (pa_cons (pv 0) (pa_cons (pv 1) (pa_cons pe_int pa_nil))))))
      pss_nil)
      (C8.pss_cut (ps_if (pt_cmpR op_eq (pv 3) pe_str (nomark _))
      (pss_one (ps_set (i := 4) sc_lawStep.nd rfl (Or.inl rfl) (C8.pe_c C_lawWord hr (by decide) rfl (pa_cons (pv 0) (pa_cons (pv 1) (pa_cons pe_int pa_nil))))))
      pss_nil)
      (pss_one (ps_ret (pe_tup (pa_cons (pv 3) (pa_cons (pv 4) (pa_cons (pv 5) (pa_cons pe_non (pa_cons (pv 6) (pa_cons pe_non pa_nil)))))))))))))))), ?_⟩

  obtain ⟨p, c, m, sg, rfl, hp, hm, hs1, hs2, hsg, q⟩ := h
  have hsl : ∀ z ∈ sg, z ∈ signsL := fun z hz => (hsg z hz).1
  refine ⟨szB (by decide), fun W hW => ?_⟩
  refine ⟨_, rfl, _, rfl, szB (by decide), fun Y hY => ?_⟩
  have nW : W ≠ Y := ne_of_none upd_same hY
  refine ⟨W, Y, _, _, rfl, rfl, by rw [upd_ne nW]; exact upd_same, upd_same, szB (by decide), fun Z hZ => ?_⟩
  refine ⟨p, c, m, _, rfl, ((hp.new hW).new hY).new hZ, by omega, .inr ⟨Z, _, rfl, upd_same, by decide, by decide, fun H1 v k1 k2 k3 => ?_⟩⟩
  obtain ⟨k, rfl, hk⟩ := words_v k3
  have ks1 : Ks H H1 := (((Ks.new1 hW _).new hY _).new hZ _).trans k1
  refine ⟨szB (show 3 ≤ 1000000 by decide), fun T0 hT0 => ⟨T0, _, rfl, SqT.of upd_same, rfl, _, _, rfl, _, _, rfl, _, _, rfl, rfl, ?_⟩⟩
  have ks2 := ks1.new hT0 (.tup [.non, .non, .non])
  have p2 := k2.new (o := .tup [.non, .non, .non]) hT0
  generalize upd H1 T0 (.tup [.non, .non, .non]) = H2 at ks2 p2 ⊢
  have in1 : ∀ b, decide (k ∈ (["replace", "first", "once"] : List Str)) = b → inV (.str k) [.str "replace", .str "first", .str "once"] = b := fun b h => (st_in k _).trans h
  have in2 : ∀ b, decide (k ∈ (["ahead", "behind"] : List Str)) = b → inV (.str k) [.str "ahead", .str "behind"] = b := fun b h => (st_in k _).trans h
  have in3 : ∀ b, decide (k ∈ (["above", "below"] : List Str)) = b → inV (.str k) [.str "above", .str "below"] = b := fun b h => (st_in k _).trans h
  let σ9 : V → V → V → Option V → L2.St := fun o n t w => [some (.ref p), some (.str (S sg)), some (.ref W), some (.str k), some o, some n, some t, w]
  by_cases cA : k ∈ (["replace", "first", "once"] : List Str)
  · have hk : k = "replace" ∨ k = "first" ∨ k = "once" := by simpa using cA
    refine ⟨fun σ' H' => ∃ (o n : List Nat) (tt : Option Tst) (cv : V) (v7 : Option V), σ' = σ9 (.str (S o)) (.str (S n)) cv v7 ∧ Ks H H' ∧ PenAt H' p c (m + 80) ∧ TvL H' tt cv ∧ OkTo tt ∧ WdOk o ∧ PtOk n ∧ (tt ≠ none → k = "replace" ∧ 10 ∉ o ∧ 10 ∉ n), ?_, ?_⟩
    · refine ⟨_, rfl, szB (show 3 ≤ 1000000 by decide), fun L hL => ⟨L, _, rfl, .inl (SqL.of upd_same), rfl, by decide, _, rfl, ify (in1 _ (decide_eq_true cA)) ?_⟩⟩
      have ks3 := ks2.new hL (.lst [.str "replace", .str "first", .str "once"])
      have p3 := p2.new (o := .lst [.str "replace", .str "first", .str "once"]) hL
      generalize upd H2 L (.lst [.str "replace", .str "first", .str "once"]) = H3 at ks3 p3 ⊢
      refine ⟨_, rfl, _, rfl, p, c, m + 1, 6, rfl, p3, by omega, by decide, by decide, fun H4 r k4 p4 hr4 => ?_⟩
      generalize hb : decide (V.int (r : Int) = V.int 0) = b
      refine ⟨rfl, .inr ⟨_, rfl, [10], (if b = true then 1 else 0), congrArg V.str nl_S, ?_, by split <;> decide, by split <;> decide, _, _, rfl, rfl, ?_, ?_⟩⟩
      · rw [hb]; cases b <;> rfl
      · rw [S_len, S_len]; exact szB (by cases b <;> simp [repL] <;> omega)
      have ew : S sg ++ S (repL (if b = true then 1 else 0) [10]) = S (sg ++ (if b = true then [10] else [])) := by
        rw [S_cat]; cases b <;> rfl
      rw [ew]
      have wl : (sg ++ (if b = true then [10] else [])).length ≤ 4 := by
        rw [List.length_append]; cases b <;> simp <;> omega
      have wl1 : 1 ≤ (sg ++ (if b = true then [10] else [])).length := by rw [List.length_append]; omega
      refine ⟨_, rfl, _, rfl, p, c, m + 2, 2, _, rfl, p4, by omega, by decide, by decide, wl1, by omega, fun H5 o k5 p5 o1 o2 om => ⟨_, rfl, _, rfl, p, c, m + 2 + 1 + 2, 2, sg, rfl, p5, by omega, by decide, by decide, hs1, by omega, fun H6 n k6 p6 n1 nm => ⟨_, _, rfl, ?_⟩⟩⟩
      have ks6 := ks3.trans (k4.trans (k5.trans k6))
      have ho : WdOk o := ⟨sg_pt (in_nl om hsl) (fun _ z => z) (by omega), o1⟩
      have hn : PtOk n := sg_pt nm hsl (by omega)
      have hn10 : 10 ∉ n := fun z => (hsg 10 (nm 10 z)).2 rfl
      have dn : ∀ v7, ∃ (o' n' : List Nat) (tt : Option Tst) (cv : V) (v7' : Option V), σ9 (.str (S o)) (.str (S n)) .non v7 = σ9 (.str (S o')) (.str (S n')) cv v7' ∧ Ks H H6 ∧ PenAt H6 p c (m + 80) ∧ TvL H6 tt cv ∧ OkTo tt ∧ WdOk o' ∧ PtOk n' ∧ (tt ≠ none → k = "replace" ∧ 10 ∉ o' ∧ 10 ∉ n') := fun v7 =>
        ⟨o, n, none, .non, v7, rfl, ks6, p6.mono (by omega), rfl, (fun _ z => nomatch z), ho, hn, fun z => absurd rfl z⟩
      refine ⟨_, rfl, rfl, _, rfl, ?_⟩
      by_cases hkr : k = "replace"
      · refine ify (decide_eq_true (by rw [hkr])) ⟨_, rfl, 10, S o, rfl, rfl, _, rfl, ?_⟩
        rw [nlIn]
        by_cases h10 : 10 ∈ o
        · exact ifn (by rw [decide_eq_true h10]; rfl) (dn _)
        · refine ify (by rw [decide_eq_false h10]; rfl) ?_
          refine ⟨_, rfl, p, c, _, 3, rfl, p6, by omega, by decide, by decide, fun H7 r7 k7 p7 hr7 => ⟨rfl, _, rfl, ?_⟩⟩
          by_cases hz : V.int (r7 : Int) = V.int 0
          · refine ify (decide_eq_true hz) ⟨_, rfl, _, rfl, p, c, _, sg, rfl, p7, by omega, hs1, by omega, hsg, fun H8 a t k8 p8 okt ck => ?_⟩
            exact ⟨o, n, some t, .ref a, _, rfl, ks6.trans (k7.trans k8), p8.mono (by omega), ⟨a, rfl, ck⟩, (fun t' e => by cases e; exact okt), ho, hn, fun _ => ⟨hkr, h10, hn10⟩⟩
          · refine ifn (decide_eq_false hz) ?_
            exact ⟨o, n, none, .non, _, rfl, ks6.trans k7, p7.mono (by omega), rfl, (fun _ z => nomatch z), ho, hn, fun z => absurd rfl z⟩
      · exact ifn (decide_eq_false (fun z => hkr (V.str.inj z))) (dn _)
    rintro σ' Hn ⟨o, n, tt, cv, v7, rfl, ks, pn, tv, okt, ho, hn, hx⟩
    let σc : L2.St := σ9 (.str (S o)) (.str (S n)) cv v7
    have pn := pn.mono (show m + 80 ≤ m + 90 by omega)
    refine ⟨fun σ' H' => σ' = σc ∧ Ks H H' ∧ PenAt H' p c (m + 90) ∧ TvL H' tt cv, ?_, ?_⟩
    · refine ⟨_, rfl, szB (show 2 ≤ 1000000 by decide), fun L hL => ⟨L, _, rfl, .inl (SqL.of upd_same), rfl, by decide, _, rfl, ifn (in2 _ (decide_eq_false (by rcases hk with rfl | rfl | rfl <;> decide +kernel))) ⟨rfl, ks.new hL _, pn.new hL, tv.tk (Ks.new1 hL _).tk⟩⟩⟩
    rintro σ' Hn ⟨rfl, ks, pn, tv⟩
    refine ⟨fun σ' H' => σ' = σc ∧ Ks H H' ∧ PenAt H' p c (m + 90) ∧ TvL H' tt cv, ?_, ?_⟩
    · refine ⟨_, rfl, szB (show 2 ≤ 1000000 by decide), fun L hL => ⟨L, _, rfl, .inl (SqL.of upd_same), rfl, by decide, _, rfl, ifn (in3 _ (decide_eq_false (by rcases hk with rfl | rfl | rfl <;> decide +kernel))) ⟨rfl, ks.new hL _, pn.new hL, tv.tk (Ks.new1 hL _).tk⟩⟩⟩
    rintro σ' Hn ⟨rfl, ks, pn, tv⟩
    refine ⟨fun σ' H' => σ' = σc ∧ Ks H H' ∧ PenAt H' p c (m + 90) ∧ TvL H' tt cv, ?_, ?_⟩
    · exact ⟨_, rfl, rfl, _, rfl, ifn (decide_eq_false (fun z => by have := V.str.inj z; rcases hk with rfl | rfl | rfl <;> revert this <;> decide +kernel)) ⟨rfl, ks, pn, tv⟩⟩
    rintro σ' Hn ⟨rfl, ks, pn, tv⟩
    refine ⟨_, rfl, _, rfl, _, rfl, _, rfl, szB (show 6 ≤ 1000000 by decide), fun R hR => ?_⟩
    exact q _ R ⟨k, some o, some n, false, tt⟩ (ks.new hR _) ((pn.new hR).mono (by omega)) ⟨cv, upd_same, tv.tk (Ks.new1 hR _).tk⟩ (.ex hk ho hn (fun z => ⟨(hx z).1, rfl, (hx z).2⟩) (fun z => nomatch z) okt)
  -- any other word: the law's test first
  have hk2 : (k = "drop" ∨ k = "keep") ∨ (k = "ahead" ∨ k = "behind") ∨ (k = "above" ∨ k = "below") ∨ k = "strip" := hk.resolve_left (fun z => cA (by simpa using z))
  refine ⟨fun σ' H' => ∃ (t : Tst) (cv : V), σ' = σ9 .non .non cv none ∧ Ks H H' ∧ PenAt H' p c (m + 80) ∧ TvL H' (some t) cv ∧ OkT t, ?_, ?_⟩
  · refine ⟨_, rfl, szB (show 3 ≤ 1000000 by decide), fun L hL => ⟨L, _, rfl, .inl (SqL.of upd_same), rfl, by decide, _, rfl, ifn (in1 _ (decide_eq_false cA)) ?_⟩⟩
    refine ⟨_, rfl, _, rfl, p, c, _, sg, rfl, p2.new hL, by omega, hs1, by omega, hsg, fun H3 a t k3 p3 ok ck => ?_⟩
    exact ⟨t, .ref a, rfl, (ks2.new hL _).trans k3, p3.mono (by omega), ⟨a, rfl, ck⟩, ok⟩
  rintro σ' Hn ⟨t, cv, rfl, ks, pn, tv, okt⟩
  let tt : Option Tst := some t
  have tv : TvL Hn tt cv := tv
  have pn := pn.mono (show m + 80 ≤ m + 90 by omega)
  rcases hk2 with hk | hk | hk | hk
  · let σc : L2.St := σ9 .non .non cv none
    refine ⟨fun σ' H' => σ' = σc ∧ Ks H H' ∧ PenAt H' p c (m + 90) ∧ TvL H' tt cv, ?_, ?_⟩
    · refine ⟨_, rfl, szB (show 2 ≤ 1000000 by decide), fun L hL => ⟨L, _, rfl, .inl (SqL.of upd_same), rfl, by decide, _, rfl, ifn (in2 _ (decide_eq_false (by rcases hk with rfl | rfl <;> decide +kernel))) ⟨rfl, ks.new hL _, pn.new hL, tv.tk (Ks.new1 hL _).tk⟩⟩⟩
    rintro σ' Hn ⟨rfl, ks, pn, tv⟩
    refine ⟨fun σ' H' => σ' = σc ∧ Ks H H' ∧ PenAt H' p c (m + 90) ∧ TvL H' tt cv, ?_, ?_⟩
    · refine ⟨_, rfl, szB (show 2 ≤ 1000000 by decide), fun L hL => ⟨L, _, rfl, .inl (SqL.of upd_same), rfl, by decide, _, rfl, ifn (in3 _ (decide_eq_false (by rcases hk with rfl | rfl <;> decide +kernel))) ⟨rfl, ks.new hL _, pn.new hL, tv.tk (Ks.new1 hL _).tk⟩⟩⟩
    rintro σ' Hn ⟨rfl, ks, pn, tv⟩
    refine ⟨fun σ' H' => σ' = σc ∧ Ks H H' ∧ PenAt H' p c (m + 90) ∧ TvL H' tt cv, ?_, ?_⟩
    · exact ⟨_, rfl, rfl, _, rfl, ifn (decide_eq_false (fun z => by have := V.str.inj z; rcases hk with rfl | rfl <;> revert this <;> decide +kernel)) ⟨rfl, ks, pn, tv⟩⟩
    rintro σ' Hn ⟨rfl, ks, pn, tv⟩
    refine ⟨_, rfl, _, rfl, _, rfl, _, rfl, szB (show 6 ≤ 1000000 by decide), fun R hR => ?_⟩
    exact q _ R ⟨k, none, none, false, some t⟩ (ks.new hR _) ((pn.new hR).mono (by omega)) ⟨cv, upd_same, tv.tk (Ks.new1 hR _).tk⟩ (.dk hk okt)
  · refine ⟨fun σ' H' => ∃ n : List Nat, σ' = σ9 .non (.str (S n)) cv none ∧ Ks H H' ∧ PenAt H' p c (m + 95) ∧ TvL H' tt cv ∧ PtOk n ∧ 10 ∉ n ∧ n ≠ [], ?_, ?_⟩
    · refine ⟨_, rfl, szB (show 2 ≤ 1000000 by decide), fun L hL => ⟨L, _, rfl, .inl (SqL.of upd_same), rfl, by decide, _, rfl, ify (in2 _ (decide_eq_true (by rcases hk with rfl | rfl <;> decide +kernel))) ?_⟩⟩
      refine ⟨_, rfl, _, rfl, p, c, _, 2, sg, rfl, pn.new hL, by omega, by decide, by decide, hs1, by omega, fun H5 n k5 p5 n1 n2 nm => ?_⟩
      exact ⟨n, rfl, (ks.new hL _).trans k5, p5.mono (by omega), (tv.tk (Ks.new1 hL _).tk).tk k5.tk, sg_pt nm hsl (by omega), (fun z => (hsg 10 (nm 10 z)).2 rfl), fun z => by rw [z] at n1; exact absurd n1 (by decide)⟩
    rintro σ' Hn ⟨n, rfl, ks, pn, tv, hn, h10, hne⟩
    let σc : L2.St := σ9 .non (.str (S n)) cv none
    refine ⟨fun σ' H' => σ' = σc ∧ Ks H H' ∧ PenAt H' p c (m + 95) ∧ TvL H' tt cv, ?_, ?_⟩
    · refine ⟨_, rfl, szB (show 2 ≤ 1000000 by decide), fun L hL => ⟨L, _, rfl, .inl (SqL.of upd_same), rfl, by decide, _, rfl, ifn (in3 _ (decide_eq_false (by rcases hk with rfl | rfl <;> decide +kernel))) ⟨rfl, ks.new hL _, pn.new hL, tv.tk (Ks.new1 hL _).tk⟩⟩⟩
    rintro σ' Hn ⟨rfl, ks, pn, tv⟩
    refine ⟨fun σ' H' => σ' = σc ∧ Ks H H' ∧ PenAt H' p c (m + 95) ∧ TvL H' tt cv, ?_, ?_⟩
    · exact ⟨_, rfl, rfl, _, rfl, ifn (decide_eq_false (fun z => by have := V.str.inj z; rcases hk with rfl | rfl <;> revert this <;> decide +kernel)) ⟨rfl, ks, pn, tv⟩⟩
    rintro σ' Hn ⟨rfl, ks, pn, tv⟩
    refine ⟨_, rfl, _, rfl, _, rfl, _, rfl, szB (show 6 ≤ 1000000 by decide), fun R hR => ?_⟩
    exact q _ R ⟨k, none, some n, false, some t⟩ (ks.new hR _) ((pn.new hR).mono (by omega)) ⟨cv, upd_same, tv.tk (Ks.new1 hR _).tk⟩ (.pt (by rcases hk with rfl | rfl <;> simp) hn h10 (fun _ => hne) okt)
  · let σc : L2.St := σ9 .non .non cv none
    refine ⟨fun σ' H' => σ' = σc ∧ Ks H H' ∧ PenAt H' p c (m + 90) ∧ TvL H' tt cv, ?_, ?_⟩
    · refine ⟨_, rfl, szB (show 2 ≤ 1000000 by decide), fun L hL => ⟨L, _, rfl, .inl (SqL.of upd_same), rfl, by decide, _, rfl, ifn (in2 _ (decide_eq_false (by rcases hk with rfl | rfl <;> decide +kernel))) ⟨rfl, ks.new hL _, pn.new hL, tv.tk (Ks.new1 hL _).tk⟩⟩⟩
    rintro σ' Hn ⟨rfl, ks, pn, tv⟩
    refine ⟨fun σ' H' => ∃ n : List Nat, σ' = σ9 .non (.str (S n)) cv none ∧ Ks H H' ∧ PenAt H' p c (m + 98) ∧ TvL H' tt cv ∧ PtOk n ∧ 10 ∉ n, ?_, ?_⟩
    · refine ⟨_, rfl, szB (show 2 ≤ 1000000 by decide), fun L hL => ⟨L, _, rfl, .inl (SqL.of upd_same), rfl, by decide, _, rfl, ify (in3 _ (decide_eq_true (by rcases hk with rfl | rfl <;> decide +kernel))) ?_⟩⟩
      refine ⟨_, rfl, _, rfl, p, c, _, 1, sg, rfl, pn.new hL, by omega, by decide, by decide, hs1, by omega, fun H5 n k5 p5 n1 nm => ?_⟩
      exact ⟨n, rfl, (ks.new hL _).trans k5, p5.mono (by omega), (tv.tk (Ks.new1 hL _).tk).tk k5.tk, sg_pt nm hsl (by omega), fun z => (hsg 10 (nm 10 z)).2 rfl⟩
    rintro σ' Hn ⟨n, rfl, ks, pn, tv, hn, h10⟩
    let σd : L2.St := σ9 .non (.str (S n)) cv none
    refine ⟨fun σ' H' => σ' = σd ∧ Ks H H' ∧ PenAt H' p c (m + 98) ∧ TvL H' tt cv, ?_, ?_⟩
    · exact ⟨_, rfl, rfl, _, rfl, ifn (decide_eq_false (fun z => by have := V.str.inj z; rcases hk with rfl | rfl <;> revert this <;> decide +kernel)) ⟨rfl, ks, pn, tv⟩⟩
    rintro σ' Hn ⟨rfl, ks, pn, tv⟩
    refine ⟨_, rfl, _, rfl, _, rfl, _, rfl, szB (show 6 ≤ 1000000 by decide), fun R hR => ?_⟩
    exact q _ R ⟨k, none, some n, false, some t⟩ (ks.new hR _) ((pn.new hR).mono (by omega)) ⟨cv, upd_same, tv.tk (Ks.new1 hR _).tk⟩ (.pt (by rcases hk with rfl | rfl <;> simp) hn h10 (fun z => by rcases hk with rfl | rfl <;> exact absurd z (by decide +kernel)) okt)
  · subst hk
    let σc : L2.St := [some (.ref p), some (.str (S sg)), some (.ref W), some (.str "strip"), some .non, some .non, some cv, none]
    refine ⟨fun σ' H' => σ' = σc ∧ Ks H H' ∧ PenAt H' p c (m + 90) ∧ TvL H' tt cv, ?_, ?_⟩
    · refine ⟨_, rfl, szB (show 2 ≤ 1000000 by decide), fun L hL => ⟨L, _, rfl, .inl (SqL.of upd_same), rfl, by decide, _, rfl, ifn (in2 _ (by decide +kernel)) ⟨rfl, ks.new hL _, pn.new hL, tv.tk (Ks.new1 hL _).tk⟩⟩⟩
    rintro σ' Hn ⟨rfl, ks, pn, tv⟩
    refine ⟨fun σ' H' => σ' = σc ∧ Ks H H' ∧ PenAt H' p c (m + 90) ∧ TvL H' tt cv, ?_, ?_⟩
    · refine ⟨_, rfl, szB (show 2 ≤ 1000000 by decide), fun L hL => ⟨L, _, rfl, .inl (SqL.of upd_same), rfl, by decide, _, rfl, ifn (in3 _ (by decide +kernel)) ⟨rfl, ks.new hL _, pn.new hL, tv.tk (Ks.new1 hL _).tk⟩⟩⟩
    rintro σ' Hn ⟨rfl, ks, pn, tv⟩
    refine ⟨fun σ' H' => ∃ o : List Nat, σ' = [some (.ref p), some (.str (S sg)), some (.ref W), some (.str "strip"), some (.str (S o)), some .non, some cv, none] ∧ Ks H H' ∧ PenAt H' p c (m + 95) ∧ TvL H' tt cv ∧ WdOk o ∧ 10 ∉ o, ?_, ?_⟩
    · refine ⟨_, rfl, rfl, _, rfl, ify (decide_eq_true rfl) ⟨_, rfl, _, rfl, p, c, _, 2, sg, rfl, pn, by omega, by decide, by decide, hs1, by omega, fun H5 n k5 p5 n1 n2 nm => ?_⟩⟩
      exact ⟨n, rfl, ks.trans k5, p5.mono (by omega), tv.tk k5.tk, ⟨sg_pt nm hsl (by omega), n1⟩, fun z => (hsg 10 (nm 10 z)).2 rfl⟩
    rintro σ' Hn ⟨o, rfl, ks, pn, tv, ho, h10⟩
    refine ⟨_, rfl, _, rfl, _, rfl, _, rfl, szB (show 6 ≤ 1000000 by decide), fun R hR => ?_⟩
    exact q _ R ⟨"strip", some o, none, false, some t⟩ (ks.new hR _) ((pn.new hR).mono (by omega)) ⟨cv, upd_same, tv.tk (Ks.new1 hR _).tk⟩ (.sp ho h10 okt)

end
end Vf

set_option maxRecDepth 100000
set_option maxHeartbeats 4000000
namespace Vf
open PySem PySem.Spec PyProof.Rows L2 SX
section
variable {P : Program} {w : World} {K : PySem.W.Frag} {mg : Str → Option Value} {base : Heap}
theorem cut4 (a b c d e : V) : cutV [a, b, c, d, e] none (some 4) = [a, b, c, d] := rfl
/-- the last entry is told anew -/
def Tst.sg (b : Bool) : Tst → Tst
  | .pl p _ => .pl p b
  | .rg p q _ => .rg p q b
theorem OkT.sg {t : Tst} (h : OkT t) (b : Bool) : OkT (t.sg b) := by cases t <;> exact h
def ckL : Tst → V → V → List V
  | .pl p n, _, _ => cT p .non .non n
  | .rg _ _ n, x, y => cT ("from", .non) x y n
theorem ck_l {H : Hp} {a : Addr} : ∀ {t : Tst}, CkAt H a t → ∃ (p : Pt) (x y : V), H a = some (.tup (cT p x y t.neg)) ∧ ∀ (b : Bool) (H' : Hp) (a' : Addr), Tk H H' → H' a' = some (.tup (cT p x y b)) → CkAt H' a' (t.sg b)
  | .pl p n, h => ⟨p, .non, .non, h, fun _ _ _ _ h' => h'⟩
  | .rg p q n, ⟨b, c, h, h1, h2⟩ => ⟨("from", .non), .ref b, .ref c, h, fun _ _ _ k h' => ⟨b, c, h', k _ _ h1, k _ _ h2⟩⟩
theorem ok_lawTest {f : Addr} {fd : FuncData} (F : C8.Def K mg "_law_test" s_lawTest f fd) (b : Binds K fd ["_law_pen_here", "_law_signs_here"] []) (T : Tx K w mg) (C_lawPlainTest : C8.Cal P w K mg base 5 "_law_plain_test" sp_lawPlainTest []) (C_draw : C8.Cal P w K mg base 1 "_law_draw" sp_draw []) : C8.Cal P w K mg base 6 "_law_test" sp_lawTest [] := by
  refine C8.cal0 F b .nil sc_lawTest (fun vs H Q E h => ?_) (fun cdv A outer s H vs Q E hr h => ?_)
  · obtain ⟨p, c, m, sg, rfl, _⟩ := h; rfl
  have hu := hu_of hr
  refine ⟨_, (pss_cons (ps_set (i := 2) sc_lawTest.nd rfl (Or.inl rfl) (C8.pe_c C_lawPlainTest hr (by decide) rfl (pa_cons (pv 0) (pa_cons (pv 1) pa_nil))))
      (C8.pss_cut (ps_if (pt_cmpR op_eq (C8.pe_c C_draw hr (by decide) rfl (pa_cons (pv 0) (pa_cons pe_int pa_nil))) pe_int (nomark _))
      (pss_one (ps_set (i := 2) sc_lawTest.nd rfl (Or.inl rfl) (pe_tup (pa_cons pe_str (pa_cons pe_non (pa_cons (pv 2) (pa_cons (C8.pe_c C_lawPlainTest hr (by decide) rfl (pa_cons (pv 0) (pa_cons (pv 1) pa_nil))) (pa_cons pe_bl pa_nil))))))))
      pss_nil)
      (pss_one (ps_ret (pe_op op_catT (pe_slice sl_tup (pv 2) po_none (po_some pe_int)) (pe_tup (pa_cons (pe_cmpR op_eq (C8.pe_c C_draw hr (by decide) rfl (pa_cons (pv 0) (pa_cons pe_int pa_nil))) pe_int (nomark _)) pa_nil))))))), ?_⟩

  obtain ⟨p, c, m, sg, rfl, hp, hm, hs1, hs2, hsg, q⟩ := h
  refine ⟨_, rfl, _, rfl, p, c, m, sg, rfl, hp, by omega, hs1, hs2, hsg, fun H1 a z k1 p1 oz ha => ?_⟩
  refine ⟨fun σ' H' => ∃ (a : Addr) (t : Tst), σ' = [some (.ref p), some (.str (S sg)), some (.ref a)] ∧ PenAt H' p c (m + 25) ∧ Ks H H' ∧ OkT t ∧ CkAt H' a t, ?_, ?_⟩
  · refine ⟨_, rfl, p, c, m + 10, 5, rfl, p1, by omega, by decide, by decide, fun H2 r k2 p2 hr2 => ?_⟩
    refine ⟨rfl, _, rfl, ?_⟩
    refine ite2 (fun _ => ?_) (fun _ => ?_)
    · refine ⟨_, rfl, _, rfl, _, rfl, p, c, m + 11, sg, rfl, p2, by omega, hs1, hs2, hsg, fun H3 b y k3 p3 oy hb => ?_⟩
      refine ⟨szB (by show 5 ≤ 1000000; decide), fun d hd => ?_⟩
      have ha3 := (k2.trans k3).tup ha
      exact ⟨d, .rg z y false, rfl, (p3.new hd).mono (by omega), ((k1.trans (k2.trans k3)).new hd _), ⟨oz, oy⟩, a, b, upd_same, by rw [upd_ne (ne_of_none ha3 hd)]; exact ha3, by rw [upd_ne (ne_of_none hb hd)]; exact hb⟩
    · exact ⟨a, .pl z false, rfl, p2.mono (by omega), k1.trans k2, oz, k2.tup ha⟩
  rintro σ' H2 ⟨a2, t, rfl, p2, k2, ot, ck⟩
  obtain ⟨z2, x, y, h2, back⟩ := ck_l ck
  refine ⟨_, rfl, _, rfl, a2, _, rfl, SqT.of h2, (by show ¬ (HT.sIx 5 0 none = 0 ∧ HT.sIx 5 5 (some 4) = 5); decide), fun u hu => ?_⟩
  have ks3 := k2.new hu (.tup (cutV (cT z2 x y t.neg) none (some 4)))
  have tk3 : Tk H2 (upd H2 u (.tup (cutV (cT z2 x y t.neg) none (some 4)))) := (Ks.new1 hu _).tk
  have hu3 : (upd H2 u (.tup (cutV (cT z2 x y t.neg) none (some 4)))) u = some (.tup [.str z2.1, z2.2, x, y]) := upd_same
  have p3 : PenAt (upd H2 u (.tup (cutV (cT z2 x y t.neg) none (some 4)))) p c (m + 25) := p2.new hu
  generalize (upd H2 u (.tup (cutV (cT z2 x y t.neg) none (some 4)))) = H3 at ks3 tk3 hu3 p3 ⊢
  refine ⟨_, rfl, p, c, m + 25, 4, rfl, p3, by omega, by decide, by decide, fun H4 r k4 p4 hr4 => ?_⟩
  refine ⟨rfl, szB (by show 1 ≤ 1000000; decide), fun e he => ?_⟩
  have hu4 := k4.tup hu3
  refine ⟨u, e, [.str z2.1, z2.2, x, y], _, rfl, rfl, SqT.of (by rw [upd_ne (ne_of_none hu4 he)]; exact hu4), SqT.of upd_same, (fun z => nomatch z), szB (by show 4 + 1 ≤ 1000000; decide), (fun z => nomatch z), fun _ g hg => ?_⟩
  exact q _ g (t.sg _) (((ks3.trans k4).new he _).new hg _) (((p4.new he).new hg).mono (by omega)) (ot.sg _) (back _ _ g (tk3.trans (k4.tk.trans ((Ks.new1 he _).new hg _).tk)) upd_same)

end
end Vf

set_option maxRecDepth 100000
set_option maxHeartbeats 4000000
namespace Vf
open PySem PySem.Spec PyProof.Rows L2 SX
section
variable {P : Program} {w : World} {K : PySem.W.Frag} {mg : Str → Option Value} {base : Heap}
theorem ok_lawWord {f : Addr} {fd : FuncData} (F : C8.Def K mg "_law_word" s_lawWord f fd) (b : Binds K fd ["_law_pen_here", "_law_signs_here", "_law_most"] []) (T : Tx K w mg) (C_draw : C8.Cal P w K mg base 1 "_law_draw" sp_draw []) (C_pick : C8.Cal P w K mg base 2 "_law_pick" sp_pick []) : C8.Cal P w K mg base 3 "_law_word" sp_lawWordT [] := by
  refine C8.cal0 F b .nil sc_lawWord (fun vs H Q E h => ?_) (fun cdv A outer s H vs Q E hr h => ?_)
  · obtain ⟨p, c, m, n, sg, rfl, _⟩ := h; rfl
  have hu := hu_of hr
  refine ⟨_, (pss_one (ps_ret (pe_join pe_str (pe_lc (own := [("_law_k", 3)]) (g := (gName 3)) (tt := tYes) rfl sc_lawWord.nd (pi_range1 (by rfl) T.z_range (pa_cons (pe_op op_add pe_int (C8.pe_c C_draw hr (by decide) rfl (pa_cons (pv 0) (pa_cons (pv 2) pa_nil)))) pa_nil)) (blkOk_by (N := N_lawWord) (sc := C8.fnScope s_lawWord) (by decide +kernel)) (fun _ _ _ _ _ => pg_name (i := 3) sc_lawWord.nd rfl (Or.inl rfl)) (fun _ _ _ _ _ => pts_nil) (fun _ _ _ _ _ => (C8.pe_c C_pick hr (by decide) rfl (pa_cons (pv 0) (pa_cons (pv 1) pa_nil)))))))), ?_⟩

  obtain ⟨p, c, m, n, sg, rfl, hp, hm, hn1, hn2, hs1, hs2, q⟩ := h
  refine ⟨⟨_, rfl⟩, _, rfl, _, rfl, p, c, m, n, rfl, hp, by omega, hn1, by omega, fun H1 r k1 k2 hr1 => ?_⟩
  refine ⟨_, _, rfl, rfl, _, rfl, by omega, by omega, fun D hD => ?_⟩
  rw [show ((1 : Int) + (r : Int)).toNat = 1 + r by omega]
  refine lc_pen (m0 := m + 1) (s := 1) (k := 3) (fun v _ => Ones (· ∈ sg) v) (fun _ _ _ _ h => h) (by show 3 < 4; decide) hD k2 (by omega) (fun i H2 m2 Q2 hi hp2 hm2 hq => ?_) (fun H2 xs e1 e2 e3 e4 e5 => ?_)
  · exact ⟨_, rfl, _, rfl, p, c, m2, _, rfl, hp2, by omega, .inl ⟨sg, rfl, hs1, by omega, fun H3 ch j1 j2 j3 => hq H3 _ j1 j2 ⟨ch, rfl, j3⟩⟩⟩
  · obtain ⟨t, rfl, ht⟩ := ones_of e2
    have et : t.length = 1 + r := by rw [← e1, List.length_map, List.length_map]
    refine ⟨S [], D, t.map fun c => S [c], rfl, rfl, .inl (SqL.of e3), ones_bound (by omega), ?_⟩
    rw [join_ones]
    exact q H2 t (k1.trans e4) (e5.mono (by omega)) (by omega) (by omega) ht

end
end Vf

set_option maxRecDepth 100000
set_option maxHeartbeats 4000000
namespace Vf
open PySem PySem.Spec PyProof.Rows L2 SX
section
variable {P : Program} {w : World} {K : PySem.W.Frag} {mg : Str → Option Value} {base : Heap}
def mkKey (H : Hp) : V → Int
  | .ref t => match H t with
    | some (.tup (.str x :: _)) => -(x.length : Int)
    | _ => 0
  | _ => 0
theorem mkKey_at {H : Hp} {t : Addr} {x : Str} {r : List V} (h : H t = some (.tup (.str x :: r))) : mkKey H (.ref t) = -(x.length : Int) := by
  show (match H t with | some (.tup (.str x :: _)) => -(x.length : Int) | _ => 0) = _
  rw [h]
theorem ok_longestFirst {f : Addr} {fd : FuncData} {P0 cc : Addr} (F : FunC K mg "longest_first" s_longestFirst f fd cc) (b : Binds K fd ["marks"] []) (T : Tx K w mg) (TB : LamX.TabB base mg cc P0) : C8.Cal P w K mg base 4 "longest_first" (sp_longestFirst K P0) [] := by
  refine cal0c F b sc_longestFirst (fun vs H Q E h => ?_) (fun A outer s H vs Q E hr h => ?_)
  · obtain ⟨a, xs, rfl, _⟩ := h; rfl
  have hu := hu_of hr
  refine ⟨_, (pss_one (ps_ret (pe_callTy call_tuple_of (by rfl) T.z_tuple (by decide +kernel) (pa_cons (pe_sortedK (k := 0) (T := [(P0, lamQ)]) (x := "mark") (N := ["mark"]) (by rfl) T.z_sorted TB rfl (List.mem_singleton.mpr rfl) (fun p hp _ => by rw [List.mem_singleton.mp hp]; rfl) (hr.mono (by decide)) (C8.fnScope_by (by decide +kernel)) rfl (fun _ _ _ _ _ _ => rfl) (fun A outer s H f c' hr => (pe_un un_neg (pe_callB (call_lenK (K := K) rfl) (by rfl) T.z_len PySem.boot_len (pa_cons (pe_ix (ix_tupK (K := K) rfl) (pv 0) pe_int (fun _ _ => rfl)) pa_nil)))) (pa_cons (pv 0) pa_nil)) pa_nil)))), ?_⟩

  obtain ⟨a, xs, rfl, ha, hz, hm, tb, q⟩ := h
  refine ⟨_, rfl, a, xs, mkKey H, rfl, ha, hz, tb, fun H2 e2 y hy => ?_, fun H2 D ys e2 tb2 hD _ _ => ?_⟩
  · obtain ⟨t, x, u, rfl, ht, hx⟩ := hm y hy
    have ht2 := e2 _ _ ht (fun _ z => nomatch z)
    refine ⟨_, rfl, t, _, 0, .str x, rfl, rfl, SqT.of ht2, rfl, _, x.length, rfl, ⟨szB (by omega), rfl⟩, _, rfl, ?_, rfl⟩
    show V.int (-(x.length : Int)) = V.int (mkKey H (.ref t))
    exact congrArg V.int (mkKey_at ht).symm
  · refine ⟨D, ys, rfl, .inl ⟨SqL.of upd_same, fun l hl => ?_⟩⟩
    refine q _ _ (fun b o z n => ?_) ?_
    · have z2 := e2 b o z n
      have z3 : (upd H2 D (.lst ys)) b = some o := by rw [upd_ne (ne_of_none z2 hD)]; exact z2
      rw [upd_ne (ne_of_none z3 hl)]
      exact z3
    · exact (tb2.ext (same1 hD _)).ext (same1 hl _)

end
end Vf

set_option maxRecDepth 100000
set_option maxHeartbeats 4000000
namespace Vf
open PySem PySem.Spec PyProof.Rows L2 SX
section
variable {P : Program} {w : World} {K : PySem.W.Frag} {mg : Str → Option Value} {base : Heap}
theorem ok_madeOrNot {f : Addr} {fd : FuncData} {CL CS : Addr} (F : C8.Def K mg "_law_made_or_not" s_madeOrNot f fd) (b : Binds K fd ["_law_step_here"] []) (T : Tx K w mg) (C_stepMade : C8.Cal P w K mg base 7 "_law_step_made" (sp_stepMade CL CS) []) : C8.Cal P w K mg base 8 "_law_made_or_not" (sp_madeOrNot CL CS) [] := by
  refine C8.cal0 F b .nil sc_madeOrNot (fun vs H Q E h => ?_) (fun cdv A outer s H vs Q E hr h => ?_)
  · obtain ⟨v, i, rfl, _⟩ := h; rfl
  have hu := hu_of hr
  refine ⟨_, (pss_one (ps_ret (pe_ifExp (pt_val (pe_callB call_isi (by rfl) T.z_isinstance (by decide +kernel) (pa_cons (pv 0) (pa_cons (pe_bltn (v := .ty "tuple") (by rfl) T.z_tuple (by decide +kernel) rfl) pa_nil)))) (C8.pe_c C_stepMade hr (by decide) rfl (pa_cons (pv 0) pa_nil)) (pv 0)))), ?_⟩

  obtain ⟨v, i, rfl, hv, ok, q⟩ := h
  cases i with
  | st s =>
    obtain ⟨a, rfl, ha⟩ := hv
    obtain ⟨cv, e, z⟩ := id ha
    refine ⟨_, rfl, _, _, _, _, true, rfl, .ty "tuple", .base (.tup e), kit_ty (by decide +kernel), _, rfl, ifT ?_⟩
    exact ⟨_, rfl, a, s, rfl, ha, ok, fun H' o sm st => q H' _ sm ⟨o, rfl, st⟩⟩
  | no u =>
    obtain rfl : v = u := hv
    have k0 := q H v (fun _ _ z => z) rfl
    rcases ok with rfl | rfl | rfl
    · exact ⟨_, rfl, _, _, _, _, false, rfl, .ty "tuple", .base .non, kit_ty (by decide +kernel), _, rfl, ifF ⟨_, rfl, k0⟩⟩
    · exact ⟨_, rfl, _, _, _, _, false, rfl, .ty "tuple", .base (.str _), kit_ty (by decide +kernel), _, rfl, ifF ⟨_, rfl, k0⟩⟩
    · exact ⟨_, rfl, _, _, _, _, false, rfl, .ty "tuple", .base (.int _), kit_ty (by decide +kernel), _, rfl, ifF ⟨_, rfl, k0⟩⟩

end
end Vf

set_option maxRecDepth 100000
set_option maxHeartbeats 4000000
namespace Vf
open PySem PySem.Spec PyProof.Rows L2 SX
section
variable {P : Program} {w : World} {K : PySem.W.Frag} {mg : Str → Option Value} {base : Heap}
theorem ok_onceStep {f : Addr} {fd : FuncData} {CL CS : Addr} (F : C8.Def K mg "once_step" s_onceStep f fd) (b : Binds K fd ["old", "new"] []) (T : Tx K w mg) (MN_Step_old_new : MakN P w K mg base 1 "Step" CS (sp_Step_init CS) 1 ["old", "new"] gv_old_new) (C_checkExchange : CalX P w K mg base 4 "check_exchange" sp_checkExchange) : CalX P w K mg base 5 "once_step" (sp_onceStep CL CS) := by
  refine calX F b sc_onceStep (fun vs H Q E h => ?_) (fun cdv A outer s H vs Q E hr h => ?_)
  · obtain ⟨o, n, rfl, _⟩ := h; rfl
  have hu := hu_of hr
  refine ⟨_, (pss_cons (ps_expr (pe_cx C_checkExchange hr (by decide) rfl (takes_of rfl rfl rfl rfl) (pa_cons (pv 0) (pa_cons (pv 1) pa_nil))))
      (pss_one (ps_ret (pe_mkN MN_Step_old_new hr (by decide) rfl (pa_cons pe_str pa_nil) (pk_cons (pv 0) (pk_cons (pv 1) pk_nil)))))), ?_⟩

  obtain ⟨o, n, rfl, ho, hn, q⟩ := h
  refine ⟨_, rfl, _, rfl, o, n, rfl, ho, hn, fun H1 s1 => ?_⟩
  refine ⟨_, rfl, _, rfl, rfl, rfl, fun x dx hx hdx ne => ⟨x, dx, "once", .str (S o), .str (S n), .non, false, rfl, upd_same, rfl, ?_⟩⟩
  exact st_made (s := ⟨"once", some o, some n, false, none⟩) hx hdx ne rfl (q.at s1)

end
end Vf

set_option maxRecDepth 100000
set_option maxHeartbeats 4000000
namespace Vf
open PySem PySem.Spec PyProof.Rows L2 SX
section
variable {P : Program} {w : World} {K : PySem.W.Frag} {mg : Str → Option Value} {base : Heap}
theorem ok_optionCanStand {f : Addr} {fd : FuncData} (F : C8.Def K mg "option_can_stand" s_optionCanStand f fd) (b : Binds K fd ["ahead", "word"] []) (T : Tx K w mg)  : C8.Cal P w K mg base 1 "option_can_stand" (sp_optionCanStand K) [] := by
  refine C8.cal0 F b .nil sc_optionCanStand (fun vs H Q E h => ?_) (fun cdv A outer s H vs Q E hr h => ?_)
  · obtain ⟨a, ws, w, rfl, _⟩ := h; rfl
  have hu := hu_of hr
  refine ⟨_, (pss_cons (ps_if (pt_cmpR op_notIn_seq (pv 1) (C8.pe_gc rfl (Classical.choose_spec T.g_OPTIONS).1) rfl)
      (pss_one (ps_ret pe_bl))
      pss_nil)
      (pss_cons (ps_set (i := 2) sc_optionCanStand.nd rfl (Or.inr rfl) (pe_slice sl_list (pv 0) (po_some pe_int) po_none))
      (pss_cons (ps_if (pt_val (pe_callB (cr_any rfl) (by rfl) T.z_any (by decide +kernel) (pa_cons (pe_lc (own := [("option", 3)]) (g := (gName 3)) (tt := tYes) rfl sc_optionCanStand.nd (pi_tup (pe_slice sl_tupA (C8.pe_gc rfl (Classical.choose_spec T.g_OPTIONS).1) (po_some (pe_bm PySem.F.plainAttrs_tuple PySem.F.slot_tuple_index PySem.F.type_tuple_index mt_tup_index (C8.pe_gc rfl (Classical.choose_spec T.g_OPTIONS).1) (pa_cons (pv 1) pa_nil))) po_none)) (blkOk_by (N := N_optionCanStand) (sc := C8.fnScope s_optionCanStand) (by decide +kernel)) (fun _ _ _ _ _ => pg_name (i := 3) sc_optionCanStand.nd rfl (Or.inl rfl)) (fun _ _ _ _ _ => pts_nil) (fun _ _ _ _ _ => (pe_cmpR (op_in_seqK (K := K) rfl) (pv 3) (pv 2) rfl))) pa_nil)))
      (pss_one (ps_ret pe_bl))
      pss_nil)
      (pss_cons (ps_if (pt_cmpR op_eq (pv 1) pe_str (nomark _))
      (pss_one (ps_ret pe_bl))
      pss_nil)
      (pss_cons (ps_if (pt_cmpR op_eq (pv 1) pe_str (nomark _))
      (pss_one (ps_ret (pe_and (pe_cmpR op_eq (pe_ix ix_list (pv 0) pe_int (fun _ _ => rfl)) pe_str (nomark _)) (pe_one (pe_cmpR op_notIn_seq (pe_ix ix_list (pv 0) pe_int (fun _ _ => rfl)) (pe_tup (pa_cons pe_str (pa_cons (pe_ix ix_list (pv 0) pe_int (fun _ _ => rfl)) pa_nil))) rfl)))))
      pss_nil)
      (pss_one (ps_ret (pe_and (pe_cmpR op_ne (pe_ix ix_list (pv 0) pe_int (fun _ _ => rfl)) pe_str (nomark _)) (pe_one (pe_not (pe_and (pe_cmpR op_eq (pv 1) pe_str (nomark _)) (pe_one (pe_cmpR op_in_seq pe_str (pv 2) rfl))))))))))))), ?_⟩

  obtain ⟨a, ws, w, rfl, ha, h4, hz, hf, n1, n2, hw, q⟩ := h
  rw [← optP_eq hf n1 n2] at q
  have gO := (Classical.choose_spec T.g_OPTIONS).2.1
  have gT := (Classical.choose_spec T.g_OPTIONS).2.2
  refine ⟨_, rfl, _, OPTS.map V.str, rfl, .inr (gO H), rfl, rfl, _, rfl, ?_⟩
  show if (!inV (.str w) (OPTS.map V.str)) = true then _ else _
  rw [inV_strs]
  by_cases m : w ∈ OPTS
  case neg =>
    have q0 := q H (same_refl H)
    unfold optP at q0
    rw [if_pos m] at q0
    exact ify (by rw [decide_eq_false m]; rfl) q0
  refine ifn (by rw [decide_eq_true m]; rfl) ?_
  refine ⟨_, rfl, 4, rfl, a, _, rfl, ha, fun G hG => ?_⟩
  have eG : cutV (ws.map V.str) (some 4) none = (ws.drop 4).map V.str := (cut_from _ 4).trans (strs_drop ws 4)
  rw [eG]
  obtain ⟨i1, i2⟩ := idx_first m
  have hG1 : (upd H G (.lst ((ws.drop 4).map V.str))) G = some (.lst ((ws.drop 4).map V.str)) := upd_same
  refine ⟨.inr (.inl ⟨rfl, gT⟩), _, rfl, _, OPTS, w, OPTS.idxOf w, rfl, rfl, gO _, i1, i2, _, rfl, ?_⟩
  dsimp only [tNoPart]
  refine slT_from (OPTS.idxOf w) (gO _) fun b H1 s1 hb => ⟨b, rfl, ⟨_, hb⟩, fun D hD => ?_⟩
  have hG2 := s1 _ _ hG1
  have s0 : Same H H1 := fun c o z => s1 _ _ (same1 hG _ c o z)
  rw [show ([V.str "nested", V.str "escape", V.str "doubled", V.str "line"] : List V) = OPTS.map V.str from rfl, strs_drop] at hb
  refine lc_tup (K := K) (a := b) (xs := (OPTS.drop (OPTS.idxOf w)).map V.str) (fun i H' => H' D = some (.lst ((((OPTS.drop (OPTS.idxOf w)).take i).map fun o => V.bl (decide (o ∈ ws.drop 4))))) ∧ Same H1 H') ⟨upd_same, same1 hD _⟩ (fun i H' _ ⟨_, z⟩ => sqT_same z hb) ?_ ?_
  · rintro i x H2 hx ⟨e1, e2⟩
    rw [List.getElem?_map] at hx
    obtain ⟨o, ho, rfl⟩ := Option.map_eq_some_iff.mp hx
    refine ⟨rfl, ?_⟩
    dsimp only [tYes]
    rw [if_pos rfl]
    refine ⟨_, rfl, _, rfl, G, _, rfl, .inl (SqL.of (e2 _ _ hG2)), rfl, flat_strs _, ?_⟩
    have hl : (OPTS.drop (OPTS.idxOf w)).length ≤ 4 := by rw [List.length_drop]; show 4 - _ ≤ 4; omega
    refine ⟨_, e1, szL (by rw [List.length_map, List.length_take]; omega), ?_, same_upd e2 hD _⟩
    rw [upd_same, List.take_add_one, ho]
    show some (HO.lst (_ ++ [V.bl (inV (.str o) ((ws.drop 4).map V.str))])) = _
    rw [inV_strs]
    simp
  · rintro H2 ⟨e1, e2⟩
    rw [List.length_map, List.take_length] at e1
    refine ⟨D, (OPTS.drop (OPTS.idxOf w)).map fun o => decide (o ∈ ws.drop 4), rfl, SqL.of (by rw [e1, List.map_map]; rfl), _, rfl, ?_⟩
    rw [List.any_map]
    have s2 : Same H H2 := fun c o z => e2 _ _ (s0 c o z)
    have q2 := q H2 s2
    have ha2 := sqL_same s2 ha
    unfold optP at q2
    rw [if_neg (by simpa using m)] at q2
    cases c : (OPTS.drop (OPTS.idxOf w)).any (fun o => decide (o ∈ ws.drop 4)) with
    | true =>
      rw [if_pos c] at q2
      exact ify c q2
    | false =>
      rw [if_neg (by rw [c]; exact Bool.false_ne_true)] at q2
      refine ifn c ?_
      refine ⟨_, rfl, rfl, _, rfl, ?_⟩
      rw [dS]
      by_cases c1 : w = "escape"
      · rw [if_pos c1] at q2
        exact ify (decide_eq_true c1) q2
      rw [if_neg c1] at q2
      refine ifn (decide_eq_false c1) ⟨_, rfl, rfl, _, rfl, ?_⟩
      rw [dS]
      by_cases c2 : w = "nested"
      · rw [if_pos c2] at q2
        refine ify (decide_eq_true c2) ?_
        refine ⟨_, rfl, a, _, 0, _, rfl, rfl, ha2, at_strs (i := 0) (by omega), rfl, _, rfl, ?_⟩
        rw [dS, ← getD_at (by omega : 0 < ws.length)]
        by_cases c3 : ws.getD 0 "" = "remark"
        · rw [decide_eq_true c3, Bool.true_and] at q2
          refine ify (decide_eq_true c3) ?_
          refine ⟨_, rfl, a, _, 3, _, rfl, rfl, ha2, at_strs (i := 3) (by omega), ?_⟩
          refine ⟨_, rfl, a, _, 1, _, rfl, rfl, ha2, at_strs (i := 1) (by omega), sz_2, fun t ht => ?_⟩
          refine ⟨t, [.str "line", .str ws[1]], rfl, .inr (SqT.of upd_same), rfl, rfl, ?_⟩
          show Q (.bl (!inV (.str ws[3]) (([("line" : Str), ws[1]] : List Str).map V.str))) _
          rw [inV_strs, ← getD_at (by omega : 3 < ws.length), ← getD_at (by omega : 1 < ws.length)]
          have q3 := q _ (same_new s2 ht (.tup [.str "line", .str (ws.getD 1 "")]))
          unfold optP at q3
          rw [if_neg (by simpa using m), if_neg (by rw [c]; exact Bool.false_ne_true), if_neg c1, if_pos c2, decide_eq_true c3, Bool.true_and] at q3
          exact q3
        · rw [decide_eq_false c3, Bool.false_and] at q2
          exact ifn (decide_eq_false c3) q2
      · rw [if_neg c2] at q2
        refine ifn (decide_eq_false c2) ?_
        refine ⟨_, rfl, a, _, 3, _, rfl, rfl, ha2, at_strs (i := 3) (by omega), rfl, _, rfl, ?_⟩
        have e3 : (!decide (V.str ws[3] = V.str "line")) = decide (ws.getD 3 "" ≠ "line") := by
          rw [dS, getD_at (by omega : 3 < ws.length)]
          by_cases z : ws[3] = "line" <;> simp [z]
        by_cases c3 : ws.getD 3 "" ≠ "line"
        · rw [decide_eq_true c3, Bool.true_and] at q2
          refine ify (e3.trans (decide_eq_true c3)) ?_
          refine ⟨_, rfl, rfl, _, rfl, ?_⟩
          rw [dS]
          by_cases c4 : w = "doubled"
          · rw [decide_eq_true c4, Bool.true_and] at q2
            refine ify (decide_eq_true c4) ⟨_, rfl, G, _, rfl, .inl (SqL.of (e2 _ _ hG2)), rfl, flat_strs _, _, rfl, ?_⟩
            rw [if_neg Bool.false_ne_true, inV_strs]
            exact q2
          · rw [decide_eq_false c4, Bool.false_and] at q2
            exact ifn (decide_eq_false c4) ⟨_, rfl, q2⟩
        · rw [decide_eq_false c3, Bool.false_and] at q2
          exact ifn (e3.trans (decide_eq_false c3)) q2

end
end Vf

set_option maxRecDepth 100000
set_option maxHeartbeats 4000000
namespace Vf
open PySem PySem.Spec PyProof.Rows L2 SX
section
variable {P : Program} {w : World} {K : PySem.W.Frag} {mg : Str → Option Value} {base : Heap}
theorem ok_otherTest {f : Addr} {fd : FuncData} {CL CT CBadWord CBadNumber CBadStep CTooMany CNoTongue CW : Addr} (F : C8.Def K mg "other_test" s_otherTest f fd) (b : Binds K fd ["test"] []) (T : Tx K w mg) (ES : Es P w K mg base CT CBadWord CBadNumber CBadStep CTooMany CNoTongue CW) (M_LineTest : C8.Mak P w K mg base 1 "LineTest" CL (sp_LineTest_init CL) []) (G_LineTest : mg "LineTest" = some (.ref CL)) (AL : CaL K CL) : CalX P w K mg base 3 "other_test" (sp_otherTest K CL CBadWord CBadNumber) := by
  refine calX F b sc_otherTest (fun vs H Q E h => ?_) (fun cdv A outer s H vs Q E hr h => ?_)
  · obtain ⟨x, rfl, _⟩ := h; rfl
  have hu := hu_of hr
  refine ⟨_, (C8.pss_cut (ps_if (PW.pt (pw_or (pt_not (pt_val (pe_callB call_isi (by rfl) T.z_isinstance (by decide +kernel) (pa_cons (pv 0) (pa_cons (pe_cls (G_LineTest) rfl) pa_nil))))) (pw_or1 (pt_val (pe_fld (pv 0) rfl)))))
      (pss_one (ps_rx ES.r_BadWord hr (by decide) rfl rfl (takes_of rfl rfl rfl rfl) (pa_cons pe_str pa_nil)))
      pss_nil)
      (pss_one (ps_ret (C8.pe_mk M_LineTest hr (by decide) rfl (pa_cons (pe_fld (pv 0) rfl) (pa_cons (pe_fld (pv 0) rfl) (pa_cons (pe_tup (pa_cons (pe_fld (pv 0) rfl) (pa_cons (pe_fld (pv 0) rfl) pa_nil))) (pa_cons pe_bl pa_nil)))))))), ?_⟩

  obtain ⟨x, rfl, h⟩ := h
  have cl := AL.i.cl
  rcases h with ⟨hb, he⟩ | ⟨a, dx, p, u, v, rfl, ha, q⟩
  · refine ⟨fun _ _ => False, ?_, fun _ _ z => z.elim⟩
    rcases hb with ⟨t, ty, e⟩ | ⟨a, dx, p, u, v, rfl, ha⟩
    · refine ⟨_, rfl, _, _, _, _, false, rfl, .own CL, ty, e, false, rfl, ify rfl (ifT ?_)⟩
      exact ⟨rfl, fun d H2 hd ex sm => he d H2 sm ex⟩
    · refine ⟨_, rfl, _, _, _, _, true, rfl, .own CL, .base (TyOf.ins ha cl AL.i.ha AL.i.hn AL.i.htk AL.i.hm), AL.i.me, true, rfl, ifn rfl ?_⟩
      refine ⟨_, rfl, a, CL, dx, _, _, rfl, ha, cl, AL.a5, rfl, true, rfl, ify rfl ?_⟩
      exact ⟨rfl, fun d H2 hd ex sm => he d H2 sm ex⟩
  · refine ⟨fun σ' H' => σ' = [some (.ref a)] ∧ H' = H, ?_, ?_⟩
    · refine ⟨_, rfl, _, _, _, _, true, rfl, .own CL, .base (TyOf.ins ha cl AL.i.ha AL.i.hn AL.i.htk AL.i.hm), AL.i.me, true, rfl, ifn rfl ?_⟩
      exact ⟨_, rfl, a, CL, dx, _, _, rfl, ha, cl, AL.a5, rfl, false, rfl, ifn rfl ⟨rfl, rfl⟩⟩
    rintro σ' H' ⟨rfl, rfl⟩
    refine ⟨_, rfl, a, CL, dx, _, _, rfl, ha, cl, AL.a1, rfl, _, rfl, a, CL, dx, _, _, rfl, ha, cl, AL.a2, rfl, _, rfl, a, CL, dx, _, _, rfl, ha, cl, AL.a3, rfl, _, rfl, a, CL, dx, _, _, rfl, ha, cl, AL.a4, rfl, sz_2, fun pa hpa c dz h1 h2 ne => ?_⟩
    have ne1 : pa ≠ dz := ne_of_none upd_same h2
    have ne2 : pa ≠ c := ne_of_none upd_same h1
    refine ⟨c, dz, pa, _, _, _, _, true, rfl, upd_same, by rw [upd_ne ne2, upd_ne ne1]; exact upd_same, rfl, ?_⟩
    exact q _ c dz (made_same (same_new (fun _ _ z => z) hpa _) h1 h2) upd_same

end
end Vf

set_option maxRecDepth 100000
set_option maxHeartbeats 4000000
namespace Vf
open PySem PySem.Spec PyProof.Rows L2 SX
section
variable {P : Program} {w : World} {K : PySem.W.Frag} {mg : Str → Option Value} {base : Heap}
theorem ok_patch {f : Addr} {fd : FuncData} (F : C8.Def K mg "_law_patch" s_patch f fd) (b : Binds K fd ["_law_pen_here", "_law_signs_here", "_law_most"] []) (T : Tx K w mg) (C_draw : C8.Cal P w K mg base 1 "_law_draw" sp_draw []) (C_lawWord : C8.Cal P w K mg base 3 "_law_word" sp_lawWordT []) : C8.Cal P w K mg base 4 "_law_patch" sp_patch [] := by
  refine C8.cal0 F b .nil sc_patch (fun vs H Q E h => ?_) (fun cdv A outer s H vs Q E hr h => ?_)
  · obtain ⟨p, c, m, n, sg, rfl, _⟩ := h; rfl
  have hu := hu_of hr
  refine ⟨_, (pss_one (ps_ret (pe_ifExp (pt_cmpR op_eq (C8.pe_c C_draw hr (by decide) rfl (pa_cons (pv 0) (pa_cons pe_int pa_nil))) pe_int (nomark _)) pe_str (C8.pe_c C_lawWord hr (by decide) rfl (pa_cons (pv 0) (pa_cons (pv 1) (pa_cons (pv 2) pa_nil))))))), ?_⟩

  obtain ⟨p, c, m, n, sg, rfl, hp, hm, hn1, hn2, hs1, hs2, q⟩ := h
  refine ⟨_, rfl, p, c, m, 3, rfl, hp, by omega, by decide, by decide, fun H1 r k1 k2 hr1 => ?_⟩
  refine ⟨rfl, _, rfl, ?_⟩
  refine ite2 (fun _ => ?_) (fun _ => ?_)
  · exact q H1 [] k1 (k2.mono (by omega)) (Nat.zero_le _) (fun _ h => nomatch h)
  · exact ⟨_, rfl, _, rfl, _, rfl, p, c, m + 1, n, sg, rfl, k2, by omega, hn1, by omega, hs1, hs2, fun H2 t k3 k4 h1 h2 h3 => q H2 t (k1.trans k3) (k4.mono (by omega)) h2 h3⟩

end
end Vf

set_option maxRecDepth 100000
set_option maxHeartbeats 4000000
namespace Vf
open PySem PySem.Spec PyProof.Rows L2 SX
section
variable {P : Program} {w : World} {K : PySem.W.Frag} {mg : Str → Option Value} {base : Heap}
theorem ok_pen {f : Addr} {fd : FuncData} (F : C8.Def K mg "_law_pen" s_pen f fd) (b : Binds K fd ["_law_script"] []) (T : Tx K w mg)  : C8.Cal P w K mg base 1 "_law_pen" (sp_pen K) [] := by
  refine C8.cal0 F b .nil sc_pen (fun vs H Q E h => ?_) (fun cdv A outer s H vs Q E hr h => ?_)
  · obtain ⟨a, ns, rfl, _⟩ := h; rfl
  have hu := hu_of hr
  refine ⟨_, (pss_cons (ps_set (i := 1) sc_pen.nd rfl (Or.inl rfl) pe_int)
      (pss_cons (ps_for PassesOwn.never rfl (pi_list (pv 0)) (pg_name (i := 2) sc_pen.nd rfl (Or.inl rfl))
      (pss_one (ps_set (i := 1) sc_pen.nd rfl (Or.inl rfl) (pe_op op_mod (pe_callTy call_int1 (by rfl) T.z_int (by decide +kernel) (pa_cons (pe_op op_add (pe_op op_mul (pv 1) pe_int) (pv 2)) pa_nil)) pe_int))))
      (pss_one (ps_ret (pe_disp (pps_cons pe_str (pe_callTy call_list_of (by rfl) T.z_list (by decide +kernel) (pa_cons (pv 0) pa_nil)) (pps_cons pe_str pe_int (pps_cons pe_str pe_int (pps_cons pe_str pe_int (pps_cons pe_str (pv 1) pps_nil))))) (by rfl) (by rfl) (fun z => by cases z) (by decide)))))), ?_⟩

  obtain ⟨a, ns, rfl, hS, hl, q⟩ := h
  refine ⟨_, rfl, a, rfl, ⟨_, hS⟩, for_list (K := K) (a := a) (xs := ns.map V.int) (fun i σ H2 => ∃ (f : Int) (v : Option V), σ = [some (.ref a), some (.int f), v] ∧ H2 = H ∧ 0 ≤ f ∧ f < 1000000007)
    ⟨0, none, rfl, rfl, by decide, by decide⟩ (fun i σ H2 _ ⟨_, _, _, e, _⟩ => by rw [e]; exact hS) ?_ ?_⟩
  · rintro i y σ H2 hi ⟨fo, v, rfl, rfl, h0, h1⟩
    obtain ⟨z, rfl⟩ : ∃ z, y = V.int z := by
      rw [List.getElem?_map] at hi
      cases e : ns[i]? with
      | none => rw [e] at hi; cases hi
      | some z => rw [e] at hi; exact ⟨z, (Option.some.inj hi).symm⟩
    refine ⟨_, rfl, _, _, rfl, rfl, .inl ⟨by omega, by omega⟩, _, rfl, _, _, rfl, rfl, .inl ⟨_, rfl, _, _, rfl, rfl, (by decide : (0 : Int) < 1000000007), ?_⟩⟩
    exact ⟨_, _, rfl, rfl, Int.emod_nonneg _ (by decide), Int.emod_lt_of_pos _ (by decide)⟩
  · rintro σ H2 ⟨fo, v, rfl, rfl, h0, h1⟩
    intro p np
    refine ⟨_, rfl, a, _, rfl, .inl ((Ks.new1 np _).seq hS), fun c nc => ?_⟩
    have hcp : c ≠ p := fun e => by rw [e, upd_same] at nc; cases nc
    refine ⟨_, rfl, by rw [upd_ne hcp.symm, upd_same], [(.inr "cells", .ref c), (.inr "at", .int 0), (.inr "digits", .int 0), (.inr "count", .int 0), (.inr "fold", .int fo)], rfl, (by show 5 ≤ 15; decide), ?_⟩
    have nc0 : H2 c = none := by rw [upd_ne hcp] at nc; exact nc
    refine q _ p c (((Ks.new1 np _).upd nc0 _).upd np _) ⟨ns, 0, 0, 0, fo, Eq.trans upd_same rfl, ?_, hl, by decide, by decide, by decide, by decide, h0, by omega⟩
    rw [upd_ne hcp, upd_same]

end
end Vf

set_option maxRecDepth 100000
set_option maxHeartbeats 4000000
namespace Vf
open PySem PySem.Spec PyProof.Rows L2 SX
section
variable {P : Program} {w : World} {K : PySem.W.Frag} {mg : Str → Option Value} {base : Heap}
theorem ok_pick {f : Addr} {fd : FuncData} (F : C8.Def K mg "_law_pick" s_pick f fd) (b : Binds K fd ["_law_pen_here", "_law_some"] []) (T : Tx K w mg) (C_draw : C8.Cal P w K mg base 1 "_law_draw" sp_draw []) : C8.Cal P w K mg base 2 "_law_pick" sp_pick [] := by
  refine C8.cal0 F b .nil sc_pick (fun vs H Q E h => ?_) (fun cdv A outer s H vs Q E hr h => ?_)
  · obtain ⟨p, c, m, x, rfl, _⟩ := h; rfl
  have hu := hu_of hr
  refine ⟨_, (pss_one (ps_ret (pe_ix ix_seq (pv 1) (C8.pe_c C_draw hr (by decide) rfl (pa_cons (pv 0) (pa_cons (pe_callB call_len (by rfl) T.z_len PySem.boot_len (pa_cons (pv 1) pa_nil)) pa_nil))) (fun _ _ => rfl)))), ?_⟩

  obtain ⟨p, c, m, x, rfl, hp, hm, q⟩ := h
  rcases q with ⟨l, rfl, l1, l2, q⟩ | ⟨a, xs, rfl, ha, l1, l2, q⟩
  · refine ⟨_, rfl, _, rfl, _, rfl, _, l.length, rfl, ⟨by rw [S_len]; exact szB l2, by rw [S_len]⟩, ?_⟩
    refine ⟨p, c, m, l.length, rfl, hp, hm, l1, by omega, fun H' r k1 k2 hr' => ?_⟩
    refine .inr (.inr ⟨S l, _, l[r], rfl, rfl, by rw [S_len]; exact szB l2, atI_nat (List.getElem?_eq_getElem hr'), ?_⟩)
    exact q H' _ k1 k2 (List.getElem_mem _)
  · refine ⟨_, rfl, _, rfl, _, rfl, _, xs.length, rfl, .inl ⟨_, SqL.of ha, rfl⟩, ?_⟩
    refine ⟨p, c, m, xs.length, rfl, hp, hm, l1, by omega, fun H' r k1 k2 hr' => ?_⟩
    refine .inl ⟨a, xs, _, xs[r], rfl, rfl, SqL.of (k1.lst ha), atI_nat (List.getElem?_eq_getElem hr'), ?_⟩
    exact q H' _ k1 k2 (List.getElem_mem _)

end
end Vf

set_option maxRecDepth 100000
set_option maxHeartbeats 4000000
namespace Vf
open PySem PySem.Spec PyProof.Rows L2 SX
section
variable {P : Program} {w : World} {K : PySem.W.Frag} {mg : Str → Option Value} {base : Heap}
theorem ok_pieceMarks {f : Addr} {fd : FuncData} {CR CD CG : Addr} (F : C8.Def K mg "piece_marks" s_pieceMarks f fd) (b : Binds K fd ["rule", "number", "depth"] []) (T : Tx K w mg) (A0 : Ca K CR CD CG) : C8.Cal P w K mg base 1 "piece_marks" (sp_pieceMarks K CR) [] := by
  refine C8.cal0 F b .nil sc_pieceMarks (fun vs H Q E h => ?_) (fun cdv A outer s H vs Q E hr h => ?_)
  · obtain ⟨v, n, d, rfl, _⟩ := h; rfl
  have hu := hu_of hr
  refine ⟨_, (pss_cons (ps_set (i := 3) sc_pieceMarks.nd rfl (Or.inl rfl) (pe_lst pa_nil))
      (C8.pss_cut (ps_if (pt_truth (pe_fld (pv 0) rfl) (by intro _; rfl))
      (pss_one (ps_expr (pe_bm PySem.F.plainAttrs_list PySem.F.slot_list_append PySem.F.type_list_append mt_append (pv 3) (pa_cons (pe_tup (pa_cons (pe_fld (pv 0) rfl) (pa_cons (pe_ifExp (pt_cmpR op_gt (pv 2) pe_int (nomark _)) (pe_tup (pa_cons (pv 1) (pa_cons (pe_op op_sub (pv 2) pe_int) (pa_cons pe_int pa_nil)))) (C8.pe_gc rfl (Classical.choose_spec T.g_CODE).1)) pa_nil))) pa_nil))))
      pss_nil)
      (C8.pss_cut (ps_if (pt_cmpR op_lt (pv 2) (pe_fld (pv 0) rfl) (nomark _))
      (pss_one (ps_expr (pe_bm PySem.F.plainAttrs_list PySem.F.slot_list_append PySem.F.type_list_append mt_append (pv 3) (pa_cons (pe_tup (pa_cons (pe_fld (pv 0) rfl) (pa_cons (pe_tup (pa_cons (pv 1) (pa_cons (pe_op op_add (pv 2) pe_int) (pa_cons pe_int pa_nil)))) pa_nil))) pa_nil))))
      pss_nil)
      (C8.pss_cut (ps_if (pt_val (pe_fld (pv 0) rfl))
      (pss_one (ps_expr (pe_bm PySem.F.plainAttrs_list PySem.F.slot_list_append PySem.F.type_list_append mt_append (pv 3) (pa_cons (pe_tup (pa_cons (pe_op op_rep_str (pe_fld (pv 0) rfl) pe_int) (pa_cons (pe_tup (pa_cons (pv 1) (pa_cons (pv 2) (pa_cons pe_int pa_nil)))) pa_nil))) pa_nil))))
      pss_nil)
      (pss_one (ps_ret (pv 3))))))), ?_⟩

  obtain ⟨v, n, d, rfl, ⟨a, dx, k, op, cx, nd, es, db, ln, rfl, ha, h1, h2, h3, h4⟩, q⟩ := h
  have cl := A0.iR.cl
  refine ⟨szB (by decide), fun L hL => ?_⟩
  have nLa : a ≠ L := ne_of_none ha hL
  have step : ∀ {t : TS} {u : TS} {D : Ends} {σ : L2.St} {H1 : Hp} {j : Nat}, t { D with nx := fun σ' H' => ∃ ms : List V, σ' = [some (.ref a), some (.int (n : Int)), some (.int (d : Int)), some (.ref L)] ∧ PInv K H L j ms H' } σ H1 → (∀ (ms : List V) (H' : Hp), PInv K H L j ms H' → u D [some (.ref a), some (.int (n : Int)), some (.int (d : Int)), some (.ref L)] H') → C8.tCut t u D σ H1 := fun h1 h2 => ⟨_, h1, fun σ' H' ⟨m, e1, e2⟩ => by rw [e1]; exact h2 m H' e2⟩
  have i0 : PInv K H L 0 [] (upd H L (.lst [])) := ⟨upd_same, same1 hL _, Nat.le_refl _, fun _ z => nomatch z⟩
  refine step (j := 1) ?_ fun ms H1 i1 => step (j := 2) ?_ fun ms2 H2 i2 => step (j := 3) ?_ fun ms3 H3 i3 => ?_
  · have ha0 := i0.2.1 _ _ ha
    refine ⟨_, rfl, a, CR, dx, _, _, rfl, ha0, cl, A0.r3, rfl, _, ⟨szB (by omega), rfl⟩, ?_⟩
    cases ((cx.length : Int) != 0) with
    | false => exact ifF ⟨_, rfl, pinv_up i0⟩
    | true =>
      refine ifT ⟨_, rfl, .inl ⟨rfl, _, SqL.of i0.1⟩, _, rfl, a, CR, dx, _, _, rfl, ha0, cl, A0.r3, rfl, _, rfl, _, _, rfl, rfl, _, rfl, ?_⟩
      cases decide ((1 : Int) < (d : Int)) with
      | true =>
        refine ifT ⟨_, rfl, _, rfl, _, _, rfl, rfl, sz_3, fun t1 ht1 => ⟨sz_2, fun t ht => ?_⟩⟩
        have s1 := same1 ht1 (.tup [.int (n : Int), .int ((d : Int) - 1), .int 0])
        have s2 := same_new s1 ht (.tup [.str cx, .ref t1])
        exact ⟨L, _, _, rfl, rfl, s2 _ _ i0.1, szL (by decide), _, rfl, pinv_push hL i0 s2 upd_same (by omega)⟩
      | false =>
        refine ifF ⟨sz_2, fun t ht => ?_⟩
        have s2 := same1 ht (.tup [.str cx, .ref (Classical.choose T.g_CODE)])
        exact ⟨L, _, _, rfl, rfl, s2 _ _ i0.1, szL (by decide), _, rfl, pinv_push hL i0 s2 upd_same (by omega)⟩
  · have ha0 := i1.2.1 _ _ ha
    refine ⟨_, rfl, _, rfl, a, CR, dx, _, _, rfl, ha0, cl, A0.r4, rfl, _, _, rfl, rfl, _, rfl, ?_⟩
    cases decide ((d : Int) < (nd : Int)) with
    | false => exact ifF ⟨_, rfl, pinv_up i1⟩
    | true =>
      refine ifT ⟨_, rfl, .inl ⟨rfl, _, SqL.of i1.1⟩, _, rfl, a, CR, dx, _, _, rfl, ha0, cl, A0.r2, rfl, _, rfl, _, rfl, _, _, rfl, rfl, sz_3, fun t1 ht1 => ⟨sz_2, fun t ht => ?_⟩⟩
      have s1 := same1 ht1 (.tup [.int (n : Int), .int ((d : Int) + 1), .int 0])
      have s2 := same_new s1 ht (.tup [.str op, .ref t1])
      exact ⟨L, _, _, rfl, rfl, s2 _ _ i1.1, szL (by have := i1.2.2.1; omega), _, rfl, pinv_push hL i1 s2 upd_same (by omega)⟩
  · have ha0 := i2.2.1 _ _ ha
    refine ⟨_, rfl, a, CR, dx, _, _, rfl, ha0, cl, A0.r6, rfl, _, rfl, ?_⟩
    cases db with
    | false => exact ifF ⟨_, rfl, pinv_up i2⟩
    | true =>
      refine ifT ⟨_, rfl, .inl ⟨rfl, _, SqL.of i2.1⟩, _, rfl, a, CR, dx, _, _, rfl, ha0, cl, A0.r3, rfl, TL.tl cx, 2, congrArg V.str (S_tl cx).symm, rfl, by decide, by rw [← TL.len_tl]; omega, ?_⟩
      refine ⟨_, rfl, _, rfl, sz_3, fun t1 ht1 => ⟨sz_2, fun t ht => ?_⟩⟩
      have s1 := same1 ht1 (.tup [.int (n : Int), .int (d : Int), .int 0])
      have s2 := same_new s1 ht (.tup [.str (S (repL 2 (TL.tl cx))), .ref t1])
      exact ⟨L, _, _, rfl, rfl, s2 _ _ i2.1, szL (by have := i2.2.2.1; omega), _, rfl, pinv_push hL i2 s2 upd_same (by rw [S_len, rep_len, ← TL.len_tl]; omega)⟩
  · exact ⟨_, rfl, q H3 L ms3 i3.2.1 hL i3.1 i3.2.2.1 i3.2.2.2⟩

end
end Vf

set_option maxRecDepth 100000
set_option maxHeartbeats 4000000
namespace Vf
open PySem PySem.Spec PyProof.Rows L2 SX
section
variable {P : Program} {w : World} {K : PySem.W.Frag} {mg : Str → Option Value} {base : Heap}
theorem ok_plainTest {f : Addr} {fd : FuncData} {CL CT CBadWord CBadNumber CBadStep CTooMany CNoTongue CW : Addr} (F : C8.Def K mg "plain_test" s_plainTest f fd) (b : Binds K fd ["word", "argument"] []) (T : Tx K w mg) (ES : Es P w K mg base CT CBadWord CBadNumber CBadStep CTooMany CNoTongue CW) (M_LineTest : C8.Mak P w K mg base 1 "LineTest" CL (sp_LineTest_init CL) []) (AL : CaL K CL) (C_isLineWord : C8.Cal P w K mg base 3 "is_line_word" (sp_isLineWord K) []) (C_isWithin : C8.Cal P w K mg base 2 "is_within" (sp_isWithin K) []) : CalX P w K mg base 4 "plain_test" (sp_plainTest K CL CBadWord CBadNumber) := by
  refine calX F b sc_plainTest (fun vs H Q E h => ?_) (fun cdv A outer s H vs Q E hr h => ?_)
  · obtain ⟨x, g, o, rfl, _⟩ := h; rfl
  have hu := hu_of hr
  refine ⟨_, (C8.pss_cut (ps_if (PW.pt (pw_or (pt_not (pt_val (pe_callB call_isi (by rfl) T.z_isinstance (by decide +kernel) (pa_cons (pv 0) (pa_cons (pe_bltn (v := .ty "str") (by rfl) T.z_str (by decide +kernel) rfl) pa_nil))))) (pw_or1 (pt_cmpR op_notIn_seq (pv 0) (pe_tup (StX.pa_star (C8.pe_gc rfl (Classical.choose_spec T.g_WORD_TESTS).1) (StX.pa_star (C8.pe_gc rfl (Classical.choose_spec T.g_NUMBER_TESTS).1) (StX.pa_star (C8.pe_gc rfl (Classical.choose_spec T.g_BARE_TESTS).1) pa_nil)))) rfl))))
      (pss_one (ps_rx ES.r_BadWord hr (by decide) rfl rfl (takes_of rfl rfl rfl rfl) (pa_cons pe_str pa_nil)))
      pss_nil)
      (C8.pss_cut (ps_if (PW.pt (pw_and (pt_cmpR op_in_seq (pv 0) (C8.pe_gc rfl (Classical.choose_spec T.g_WORD_TESTS).1) rfl) (pw_and1 (pt_not (pt_val (C8.pe_c C_isLineWord hr (by decide) rfl (pa_cons (pv 1) pa_nil)))))))
      (pss_one (ps_rx ES.r_BadWord hr (by decide) rfl rfl (takes_of rfl rfl rfl rfl) (pa_cons pe_str pa_nil)))
      pss_nil)
      (C8.pss_cut (ps_if (PW.pt (pw_and (pt_cmpR op_in_seq (pv 0) (C8.pe_gc rfl (Classical.choose_spec T.g_NUMBER_TESTS).1) rfl) (pw_and1 (pt_not (pt_val (C8.pe_c C_isWithin hr (by decide) rfl (pa_cons (pv 1) (pa_cons (pe_kix (K := K) (w := w) rfl rfl (C8.pe_gc rfl (Classical.choose_spec T.g_BOUNDS).1) (pv 0) (fun _ _ => rfl)) pa_nil))))))))
      (pss_one (ps_rx ES.r_BadNumber hr (by decide) rfl rfl (takes_of rfl rfl rfl rfl) (pa_cons (pv 0) (pa_cons (pv 1) pa_nil))))
      pss_nil)
      (C8.pss_cut (ps_if (PW.pt (pw_and (pt_cmpR op_in_seq (pv 0) (C8.pe_gc rfl (Classical.choose_spec T.g_BARE_TESTS).1) rfl) (pw_and1 (pt_cmpR op_notN (pv 1) pe_non (nomark _)))))
      (pss_one (ps_rx ES.r_BadWord hr (by decide) rfl rfl (takes_of rfl rfl rfl rfl) (pa_cons pe_str pa_nil)))
      pss_nil)
      (pss_one (ps_ret (C8.pe_mk M_LineTest hr (by decide) rfl (pa_cons (pv 0) (pa_cons (pv 1) (pa_cons (pe_tup (pa_cons pe_non (pa_cons pe_non pa_nil))) (pa_cons pe_bl pa_nil))))))))))), ?_⟩

  obtain ⟨x, g, o, rfl, hp, qo, qe⟩ := h
  have W4 := (Classical.choose_spec T.g_WORD_TESTS).2
  have W2 := (Classical.choose_spec T.g_NUMBER_TESTS).2
  have WB := (Classical.choose_spec T.g_BARE_TESTS).2
  refine ⟨fun σ' H' => ∃ k, x = .str k ∧ inV (.str k) l8 = true ∧ σ' = [some x, some g] ∧ Same H H', ?_, ?_⟩
  · rcases pt_one hp with ⟨⟨t, ty, e⟩, ho⟩ | ⟨k, rfl, h8, ho⟩ | ⟨k, rfl, h8⟩
    · refine ⟨_, rfl, _, _, _, _, false, rfl, .ty "str", ty, e, false, rfl, ?_⟩
      refine ify rfl (ifT ?_)
      exact ⟨rfl, fun d H2 hd ex sm => qe _ ho d H2 sm ex⟩
    · refine ⟨_, rfl, _, _, _, _, true, rfl, .ty "str", .base (.str _), kit_ty (by decide +kernel), true, rfl, ?_⟩
      refine ifn rfl ?_
      refine ⟨_, rfl, _, _, rfl, .inl (W4 H), _, _, rfl, .inl (W2 H), _, _, rfl, .inl (WB H), szB (by decide), fun tp htp => ?_⟩
      refine ⟨tp, l8, rfl, .inr (SqT.of upd_same), rfl, by decide, _, rfl, ?_⟩
      rw [h8]
      refine ify rfl ?_
      exact ⟨rfl, fun d H2 hd ex sm => qe _ ho d H2 (Same.trans (same_new (fun _ _ z => z) htp _) sm) ex⟩
    · refine ⟨_, rfl, _, _, _, _, true, rfl, .ty "str", .base (.str _), kit_ty (by decide +kernel), true, rfl, ?_⟩
      refine ifn rfl ?_
      refine ⟨_, rfl, _, _, rfl, .inl (W4 H), _, _, rfl, .inl (W2 H), _, _, rfl, .inl (WB H), szB (by decide), fun tp htp => ?_⟩
      refine ⟨tp, l8, rfl, .inr (SqT.of upd_same), rfl, by decide, _, rfl, ?_⟩
      rw [h8]
      refine ifn rfl ?_
      exact ⟨k, rfl, h8, rfl, same_new (fun _ _ z => z) htp _⟩
  rintro σ' H1 ⟨k, rfl, h8, rfl, s1⟩
  have two := pt_two hp h8
  refine ⟨fun σ' H' => σ' = [some (.str k), some g] ∧ Same H H' ∧ (inV (.str k) l4 = true → o = none), ?_, ?_⟩
  · rcases two with ⟨c1, _, _, z⟩ | ⟨c1, _, _, _⟩ | ⟨c1, _, _, _⟩
    · refine ⟨_, rfl, _, l4, rfl, .inr (W4 H1), rfl, by decide, _, rfl, ?_⟩
      rw [c1]
      refine ify rfl ?_
      rcases z with ⟨hb, ho⟩ | ⟨⟨l, rfl, hl, hw⟩, ho⟩
      · rcases hb with hb | ⟨l, rfl, hl, hw⟩
        · refine ⟨_, rfl, _, rfl, .inr ⟨hb.sm s1, false, rfl, ?_⟩⟩
          refine ify rfl ?_
          exact ⟨rfl, fun d H2 hd ex sm => qe _ ho d H2 (Same.trans s1 sm) ex⟩
        · refine ⟨_, rfl, _, rfl, .inl ⟨l, rfl, hl, fun H2 s2 => ⟨_, rfl, ?_⟩⟩⟩
          rw [hw]
          refine ify rfl ?_
          exact ⟨rfl, fun d H3 hd ex sm => qe _ ho d H3 (Same.trans s1 (Same.trans s2 sm)) ex⟩
      · refine ⟨_, rfl, _, rfl, .inl ⟨l, rfl, hl, fun H2 s2 => ⟨_, rfl, ?_⟩⟩⟩
        rw [hw]
        refine ifn rfl ?_
        exact ⟨rfl, Same.trans s1 s2, fun _ => ho⟩
    · refine ⟨_, rfl, _, l4, rfl, .inr (W4 H1), rfl, by decide, _, rfl, ?_⟩
      rw [c1]
      exact ifn rfl (ifF ⟨rfl, s1, fun z => nomatch z⟩)
    · refine ⟨_, rfl, _, l4, rfl, .inr (W4 H1), rfl, by decide, _, rfl, ?_⟩
      rw [c1]
      exact ifn rfl (ifF ⟨rfl, s1, fun z => nomatch z⟩)
  rintro σ' H2 ⟨rfl, s2, o4⟩
  refine ⟨fun σ' H' => σ' = [some (.str k), some g] ∧ Same H H' ∧ (inV (.str k) lB = false → o = none), ?_, ?_⟩
  · rcases two with ⟨c1, c2, c3, _⟩ | ⟨c1, c2, c3, lo, hi, hk, z⟩ | ⟨c1, c2, c3, _⟩
    · refine ⟨_, rfl, _, l2, rfl, .inr (W2 H2), rfl, by decide, _, rfl, ?_⟩
      rw [c2]
      exact ifn rfl (ifF ⟨rfl, s2, fun _ => o4 c1⟩)
    · refine ⟨_, rfl, _, l2, rfl, .inr (W2 H2), rfl, by decide, _, rfl, ?_⟩
      rw [c2]
      refine ify rfl ?_
      obtain ⟨ba, bb, kd, qa, qb⟩ := (Classical.choose_spec T.g_BOUNDS).2
      obtain ⟨aa, ha, qq⟩ : ∃ aa : Addr, (fun z => if z = ("short" : Str) then some (V.ref ba) else if z = ("number" : Str) then some (V.ref bb) else none) k = some (.ref aa) ∧ ∀ H : Hp, SqT K H aa [.int lo, .int hi] := by
        rcases hk with ⟨rfl, rfl, rfl⟩ | ⟨rfl, rfl, rfl⟩
        · exact ⟨ba, if_pos rfl, qa⟩
        · exact ⟨bb, (if_neg (by decide)).trans (if_pos rfl), qb⟩
      rcases z with ⟨hb, ho⟩ | ⟨⟨i, rfl, h1, h2⟩, ho⟩
      · rcases hb with hb | ⟨i, rfl, hb⟩
        · refine ⟨_, rfl, _, _, rfl, kd, _, rfl, k, _, rfl, ha, _, aa, lo, hi, rfl, qq H2, .inl ⟨hb.sm s2, false, rfl, ?_⟩⟩
          refine ify rfl ?_
          exact ⟨_, rfl, _, rfl, rfl, fun d H3 hd ex sm => qe _ ho d H3 (Same.trans s2 sm) ex⟩
        · refine ⟨_, rfl, _, _, rfl, kd, _, rfl, k, _, rfl, ha, _, aa, lo, hi, rfl, qq H2, .inr ⟨i, rfl, _, rfl, ?_⟩⟩
          have e : (decide (lo ≤ i) && decide (i ≤ hi)) = false := by
            rcases hb with hb | hb
            · rw [decide_eq_false (by omega : ¬ lo ≤ i), Bool.false_and]
            · rw [decide_eq_false (by omega : ¬ i ≤ hi), Bool.and_false]
          rw [e]
          refine ify rfl ?_
          exact ⟨_, rfl, _, rfl, rfl, fun d H3 hd ex sm => qe _ ho d H3 (Same.trans s2 sm) ex⟩
      · refine ⟨_, rfl, _, _, rfl, kd, _, rfl, k, _, rfl, ha, _, aa, lo, hi, rfl, qq H2, .inr ⟨i, rfl, _, rfl, ?_⟩⟩
        rw [decide_eq_true h1, decide_eq_true h2]
        refine ifn rfl ?_
        exact ⟨rfl, s2, fun _ => ho⟩
    · refine ⟨_, rfl, _, l2, rfl, .inr (W2 H2), rfl, by decide, _, rfl, ?_⟩
      rw [c2]
      exact ifn rfl (ifF ⟨rfl, s2, fun z => nomatch (c3.symm.trans z)⟩)
  rintro σ' H3 ⟨rfl, s3, o2⟩
  refine ⟨fun σ' H' => σ' = [some (.str k), some g] ∧ Same H H' ∧ o = none, ?_, ?_⟩
  · rcases two with ⟨c1, c2, c3, _⟩ | ⟨c1, c2, c3, _⟩ | ⟨c1, c2, c3, z⟩
    · refine ⟨_, rfl, _, lB, rfl, .inr (WB H3), rfl, by decide, _, rfl, ?_⟩
      rw [c3]
      exact ifn rfl (ifF ⟨rfl, s3, o2 c3⟩)
    · refine ⟨_, rfl, _, lB, rfl, .inr (WB H3), rfl, by decide, _, rfl, ?_⟩
      rw [c3]
      exact ifn rfl (ifF ⟨rfl, s3, o2 c3⟩)
    · refine ⟨_, rfl, _, lB, rfl, .inr (WB H3), rfl, by decide, _, rfl, ?_⟩
      rw [c3]
      refine ify rfl ?_
      rcases z with ⟨hg, ho⟩ | ⟨rfl, ho⟩
      · refine ⟨_, rfl, rfl, _, rfl, ?_⟩
        rw [decide_eq_false hg]
        refine ify rfl ?_
        exact ⟨rfl, fun d H4 hd ex sm => qe _ ho d H4 (Same.trans s3 sm) ex⟩
      · exact ⟨_, rfl, rfl, _, rfl, ifn rfl ⟨rfl, s3, ho⟩⟩
  rintro σ' H4 ⟨rfl, s4, ho⟩
  refine ⟨_, rfl, _, rfl, sz_2, fun pa hpa a dx h1 h2 ne => ?_⟩
  have ne1 : pa ≠ dx := ne_of_none upd_same h2
  have ne2 : pa ≠ a := ne_of_none upd_same h1
  refine ⟨a, dx, pa, k, g, .non, .non, false, rfl, upd_same, by rw [upd_ne ne2, upd_ne ne1]; exact upd_same, rfl, ?_⟩
  exact qo ho _ a k rfl (made_same (same_new s4 hpa _) h1 h2) ⟨dx, upd_same⟩

end
end Vf

set_option maxRecDepth 100000
set_option maxHeartbeats 4000000
namespace Vf
open PySem PySem.Spec PyProof.Rows L2 SX
section
variable {P : Program} {w : World} {K : PySem.W.Frag} {mg : Str → Option Value} {base : Heap}
theorem put_in {w : Str} (h : w = "ahead" ∨ w = "behind" ∨ w = "above" ∨ w = "below") : inV (.str w) [.str "ahead", .str "behind", .str "above", .str "below"] = true := by
  rcases h with rfl | rfl | rfl | rfl <;> decide +kernel
theorem put_ah {w : Str} (h : w = "ahead" ∨ w = "behind" ∨ w = "above" ∨ w = "below") : inV (.str w) [.str "ahead", .str "behind"] = true → w = "ahead" ∨ w = "behind" := by
  rcases h with rfl | rfl | rfl | rfl
  · exact fun _ => .inl rfl
  · exact fun _ => .inr rfl
  · exact fun z => absurd z (by decide +kernel)
  · exact fun z => absurd z (by decide +kernel)
theorem put_of {w : Str} {n : List Nat} {t : Tst} (h : OkS ⟨w, none, some n, false, some t⟩) : (w = "ahead" ∨ w = "behind" ∨ w = "above" ∨ w = "below") ∧ PtOk n ∧ 10 ∉ n ∧ (w = "ahead" ∨ w = "behind" → n ≠ []) := by
  cases h with
  | pt a b c d => exact ⟨a, b, c, d⟩
theorem ok_putStep {f : Addr} {fd : FuncData} {CR CD CG CL CS CC CT CBadWord CBadNumber CBadStep CTooMany CNoTongue CW : Addr} (F : C8.Def K mg "put_step" s_putStep f fd) (b : Binds K fd ["where", "new", "test"] []) (T : Tx K w mg) (ES : Es P w K mg base CT CBadWord CBadNumber CBadStep CTooMany CNoTongue CW) (MN_Step_new_test : MakN P w K mg base 1 "Step" CS (sp_Step_init CS) 1 ["new", "test"] gv_new_test) (A0 : Ca K CR CD CG) (AL : CaL K CL) (AS : CaS K CS) (AC : CaC K CC) (FL : Fgn K CL) (FS : Fgn K CS) (FC : Fgn K CC) (FG : Fgn K CG) (C_isLineWord : C8.Cal P w K mg base 3 "is_line_word" (sp_isLineWord K) []) (C_checkTest : CalX P w K mg base 3 "check_test" (sp_checkTest CL)) : CalX P w K mg base 5 "put_step" (sp_putStep CL CS) := by
  refine calX F b sc_putStep (fun vs H Q E h => ?_) (fun cdv A outer s H vs Q E hr h => ?_)
  · obtain ⟨w, n, c, t, rfl, _⟩ := h; rfl
  have hu := hu_of hr
  refine ⟨_, (C8.pss_cut (ps_if (PW.pt (pw_or (pt_not (pt_val (pe_callB call_isi (by rfl) T.z_isinstance (by decide +kernel) (pa_cons (pv 0) (pa_cons (pe_bltn (v := .ty "str") (by rfl) T.z_str (by decide +kernel) rfl) pa_nil))))) (pw_or1 (pt_cmpR op_notIn_seq (pv 0) (pe_tup (pa_cons pe_str (pa_cons pe_str (pa_cons pe_str (pa_cons pe_str pa_nil))))) rfl))))
      (pss_one (ps_rx ES.r_BadWord hr (by decide) rfl rfl (takes_of rfl rfl rfl rfl) (pa_cons pe_str pa_nil)))
      pss_nil)
      (C8.pss_cut (ps_if (PW.pt (pw_or (pt_not (pt_val (C8.pe_c C_isLineWord hr (by decide) rfl (pa_cons (pv 1) pa_nil)))) (pw_or1 (PW.pt (pw_and (pt_cmpR op_eq (pv 1) pe_str (nomark _)) (pw_and1 (pt_cmpR op_in_seq (pv 0) (pe_tup (pa_cons pe_str (pa_cons pe_str pa_nil))) rfl)))))))
      (pss_one (ps_rx ES.r_BadWord hr (by decide) rfl rfl (takes_of rfl rfl rfl rfl) (pa_cons pe_str pa_nil)))
      pss_nil)
      (pss_cons (ps_expr (pe_cx C_checkTest hr (by decide) rfl (takes_of rfl rfl rfl rfl) (pa_cons (pv 2) pa_nil)))
      (pss_one (ps_ret (pe_mkN MN_Step_new_test hr (by decide) rfl (pa_cons (pv 0) pa_nil) (pk_cons (pv 1) (pk_cons (pv 2) pk_nil)))))))), ?_⟩

  obtain ⟨w, n, c, t, rfl, ok, ht, q⟩ := h
  obtain ⟨hw, hn, h10, h1⟩ := put_of ok
  refine ⟨fun σ' H' => Same H H' ∧ σ' = [some (.str w), some (.str (S n)), some (.ref c)], ?_, ?_⟩
  · refine ⟨_, rfl, _, _, _, _, true, rfl, .ty "str", .base (.str _), kit_ty (by decide +kernel), _, rfl, ifF ?_⟩
    refine ⟨_, rfl, szB (show 4 ≤ 1000000 by decide), fun T0 hT => ⟨T0, _, rfl, .inr (SqT.of upd_same), rfl, by decide, _, rfl, ?_⟩⟩
    refine ifn (by rw [if_pos rfl, put_in hw]; rfl) ⟨same1 hT _, rfl⟩
  rintro σ' H1 ⟨s1, rfl⟩
  refine ⟨fun σ' H' => Same H H' ∧ σ' = [some (.str w), some (.str (S n)), some (.ref c)], ?_, ?_⟩
  · refine ⟨_, rfl, _, rfl, .inl ⟨n, rfl, by have := hn.2; omega, fun H2 s2 => ⟨_, rfl, ?_⟩⟩⟩
    have s02 : Same H H2 := fun b o z => s2 _ _ (s1 _ _ z)
    rw [lw_ok hn h10]
    refine ifF ⟨_, rfl, rfl, _, rfl, ?_⟩
    rw [S_nil]
    by_cases hn0 : n = []
    · refine ify (decide_eq_true hn0) ?_
      refine ⟨_, rfl, szB (show 2 ≤ 1000000 by decide), fun T0 hT => ⟨T0, _, rfl, .inr (SqT.of upd_same), rfl, by decide, _, rfl, ?_⟩⟩
      have : inV (.str w) [.str "ahead", .str "behind"] = false := by
        cases e : inV (.str w) [.str "ahead", .str "behind"] with
        | false => rfl
        | true => exact absurd hn0 (h1 (put_ah hw e))
      refine ifn this ⟨fun b o z => same1 hT _ _ _ (s02 _ _ z), rfl⟩
    · exact ifn (decide_eq_false hn0) ⟨s02, rfl⟩
  rintro σ' H2 ⟨s2, rfl⟩
  refine ⟨_, rfl, c, t, rfl, ht.sm s2, ?_⟩
  refine ⟨_, rfl, _, rfl, _, rfl, rfl, rfl, fun x dx hx hdx ne => ⟨x, dx, w, .non, .str (S n), .ref c, false, rfl, upd_same, rfl, ?_⟩⟩
  exact st_made (s := ⟨w, none, some n, false, some t⟩) hx hdx ne ⟨c, rfl, ht.sm s2⟩ (q.at s2)

end
end Vf

set_option maxRecDepth 100000
set_option maxHeartbeats 4000000
namespace Vf
open PySem PySem.Spec PyProof.Rows L2 SX
section
variable {P : Program} {w : World} {K : PySem.W.Frag} {mg : Str → Option Value} {base : Heap}
theorem NoPl.sm {K : PySem.W.Frag} {CL : Addr} {H H' : Hp} {x : V} (h : NoPl K CL H x) (s : Same H H') : NoPl K CL H' x := h.elim (fun ⟨t, a, b⟩ => .inl ⟨t, tyx_sm s a, b⟩) fun ⟨a, dx, p, u, v, n, e, h, z⟩ => .inr ⟨a, dx, p, u, v, n, e, s _ _ h, z⟩
theorem ok_rangeTest {f : Addr} {fd : FuncData} {CL CT CBadWord CBadNumber CBadStep CTooMany CNoTongue CW : Addr} (F : C8.Def K mg "range_test" s_rangeTest f fd) (b : Binds K fd ["first", "second"] []) (T : Tx K w mg) (ES : Es P w K mg base CT CBadWord CBadNumber CBadStep CTooMany CNoTongue CW) (M_LineTest : C8.Mak P w K mg base 1 "LineTest" CL (sp_LineTest_init CL) []) (C_isPlain : C8.Cal P w K mg base 1 "is_plain" (sp_isPlain K CL) []) : CalX P w K mg base 3 "range_test" (sp_rangeTest K CL CBadWord CBadNumber) := by
  refine calX F b sc_rangeTest (fun vs H Q E h => ?_) (fun cdv A outer s H vs Q E hr h => ?_)
  · obtain ⟨x, y, rfl, _⟩ := h; rfl
  have hu := hu_of hr
  refine ⟨_, (pss_cons (ps_if (pt_not (pt_val (C8.pe_c C_isPlain hr (by decide) rfl (pa_cons (pv 0) pa_nil))))
      (pss_one (ps_rx ES.r_BadWord hr (by decide) rfl rfl (takes_of rfl rfl rfl rfl) (pa_cons pe_str pa_nil)))
      pss_nil)
      (pss_cons (ps_if (pt_not (pt_val (C8.pe_c C_isPlain hr (by decide) rfl (pa_cons (pv 1) pa_nil))))
      (pss_one (ps_rx ES.r_BadWord hr (by decide) rfl rfl (takes_of rfl rfl rfl rfl) (pa_cons pe_str pa_nil)))
      pss_nil)
      (pss_one (ps_ret (C8.pe_mk M_LineTest hr (by decide) rfl (pa_cons pe_str (pa_cons pe_non (pa_cons (pe_tup (pa_cons (pv 0) (pa_cons (pv 1) pa_nil))) (pa_cons pe_bl pa_nil))))))))), ?_⟩

  obtain ⟨x, y, rfl, h⟩ := h
  rcases h with ⟨hn, he⟩ | ⟨a, dx, p, u, v, rfl, ha, hp, h⟩
  · refine ⟨_, rfl, x, rfl, .inl ⟨hn, false, rfl, ify rfl ?_⟩⟩
    exact ⟨rfl, fun d H2 hd ex sm => he d H2 sm ex⟩
  · refine ⟨_, rfl, _, rfl, .inr ⟨a, dx, p, u, v, rfl, ha, hp, true, rfl, ifn rfl ?_⟩⟩
    rcases h with ⟨hn, he⟩ | ⟨b, dy, p', u', v', rfl, hb, hp', q⟩
    · refine ⟨_, rfl, y, rfl, .inl ⟨hn, false, rfl, ify rfl ?_⟩⟩
      exact ⟨rfl, fun d H2 hd ex sm => he d H2 sm ex⟩
    · refine ⟨_, rfl, _, rfl, .inr ⟨b, dy, p', u', v', rfl, hb, hp', true, rfl, ifn rfl ?_⟩⟩
      refine ⟨_, rfl, _, rfl, sz_2, fun pa hpa c dz h1 h2 ne => ?_⟩
      have ne1 : pa ≠ dz := ne_of_none upd_same h2
      have ne2 : pa ≠ c := ne_of_none upd_same h1
      refine ⟨c, dz, pa, _, _, _, _, false, rfl, upd_same, by rw [upd_ne ne2, upd_ne ne1]; exact upd_same, rfl, ?_⟩
      exact q _ c dz (made_same (same_new (fun _ _ z => z) hpa _) h1 h2) upd_same

end
end Vf

set_option maxRecDepth 100000
set_option maxHeartbeats 4000000
namespace Vf
open PySem PySem.Spec PyProof.Rows L2 SX
section
variable {P : Program} {w : World} {K : PySem.W.Frag} {mg : Str → Option Value} {base : Heap}
theorem ok_readRules {f : Addr} {fd : FuncData} {CR CD CG CT CBadWord CBadNumber CBadStep CTooMany CNoTongue CW : Addr} (F : C8.Def K mg "read_rules" s_readRules f fd) (b : Binds K fd ["text"] []) (T : Tx K w mg) (ES : Es P w K mg base CT CBadWord CBadNumber CBadStep CTooMany CNoTongue CW) (M_Rule : C8.Mak P w K mg base 1 "Rule" CR (sp_Rule_init K CR) []) (A0 : Ca K CR CD CG) (C_wrongColumn : C8.Cal P w K mg base 3 "wrong_column" (sp_wrongColumn K) []) : CalX P w K mg base 4 "read_rules" (sp_readRules CR CT) := by
  refine calX F b sc_readRules (fun vs H Q E h => ?_) (fun cdv A outer s H vs Q E hr h => ?_)
  · obtain ⟨t, rfl, _⟩ := h; rfl
  have hu := hu_of hr
  refine ⟨_, (pss_cons (ps_set (i := 1) sc_readRules.nd rfl (Or.inl rfl) (pe_lst pa_nil))
      (pss_cons (ps_set (i := 2) sc_readRules.nd rfl (Or.inl rfl) (pe_lst pa_nil))
      (pss_cons (ps_for (passes_of rfl) rfl (pi_enumK (by rfl) T.z_enumerate (pa_cons (pe_ifExp (pt_truth (pv 0) (by intro _; rfl)) (pe_split (pv 0) pe_str) (pe_lst pa_nil)) pa_nil) pe_int) (pg_tup rfl (pgs_cons (pg_name (i := 3) sc_readRules.nd rfl (Or.inl rfl)) (pgs_cons (pg_name (i := 4) sc_readRules.nd rfl (Or.inl rfl)) pgs_nil)))
      (pss_cons (ps_set (i := 5) sc_readRules.nd rfl (Or.inl rfl) (pe_ifExp (pt_cmpR op_gt (pv 3) (C8.pe_gc rfl T.g_MOST_RULES) (nomark _)) pe_int (C8.pe_c C_wrongColumn hr (by decide) rfl (pa_cons (pv 4) (pa_cons (pv 2) pa_nil)))))
      (pss_cons (ps_if (pt_cmpR op_notN (pv 5) pe_non (nomark _))
      (pss_one (ps_rx ES.r_BadText hr (by decide) rfl rfl (takes_of rfl rfl rfl rfl) (pa_cons (pv 3) (pa_cons (pv 5) pa_nil))))
      pss_nil)
      (pss_cons (ps_expr (pe_bm PySem.F.plainAttrs_list PySem.F.slot_list_append PySem.F.type_list_append mt_append (pv 1) (pa_cons (C8.pe_mk M_Rule hr (by decide) rfl (pa_cons (pe_split (pv 4) pe_str) pa_nil)) pa_nil)))
      (pss_one (ps_expr (pe_bm PySem.F.plainAttrs_list PySem.F.slot_list_append PySem.F.type_list_append mt_append (pv 2) (pa_cons (pe_fld (pe_ix ix_list (pv 1) (pe_un un_neg pe_int) (fun _ _ => rfl)) rfl) pa_nil))))))))
      (pss_one (ps_ret (pe_callTy call_tuple_of (by rfl) T.z_tuple (by decide +kernel) (pa_cons (pv 1) pa_nil))))))), ?_⟩

  obtain ⟨t, rfl, ht, lo, qo, qe⟩ := h
  refine ⟨szB (by decide), fun R hR => ⟨szB (by decide), fun O hO => ?_⟩⟩
  refine ⟨_, rfl, _, ⟨szB (by omega), rfl⟩, ?_⟩
  rw [str_ne0]
  have sR := same1 hR (.lst [])
  have sO := same_new sR hO (.lst [])
  have nRO : R ≠ O := ne_of_none upd_same hO
  have hR0 : (upd (upd H R (.lst [])) O (.lst [])) R = some (.lst []) := by rw [upd_ne nRO]; exact upd_same
  by_cases c0 : t ≠ ""
  case' pos =>
    refine ify (decide_eq_true c0) ⟨_, rfl, ⟨_, rfl⟩, _, _, rfl, rfl, by decide +kernel, szB (by omega), fun L hL => ?_⟩
    have eL : (Txt.split t (Str.ofString "\n")).map V.str = (lnsOf t).map V.str := by unfold lnsOf; rw [if_neg c0]
    have hLs : (upd (upd (upd H R (.lst [])) O (.lst [])) L (.lst ((Txt.split t (Str.ofString "\n")).map V.str))) L = some (.lst ((lnsOf t).map V.str)) := by rw [upd_same, eL]
    have hR1 : (upd (upd (upd H R (.lst [])) O (.lst [])) L (.lst ((Txt.split t (Str.ofString "\n")).map V.str))) R = some (.lst []) := by rw [upd_ne (ne_of_none hR0 hL)]; exact hR0
    have hO1 : (upd (upd (upd H R (.lst [])) O (.lst [])) L (.lst ((Txt.split t (Str.ofString "\n")).map V.str))) O = some (.lst []) := by rw [upd_ne (ne_of_none upd_same hL)]; exact upd_same
    have s1 := same_new sO hL (.lst ((Txt.split t (Str.ofString "\n")).map V.str))
    have nLR : L ≠ R := (ne_of_none hR0 hL).symm
    have nLO : L ≠ O := (ne_of_none (show (upd (upd H R (.lst [])) O (.lst [])) O = some (.lst []) from upd_same) hL).symm
    have fO : H O = none := sR.free hO
    generalize upd (upd (upd H R (.lst [])) O (.lst [])) L (.lst ((Txt.split t (Str.ofString "\n")).map V.str)) = H1 at hLs hR1 hO1 s1 ⊢
  case' neg =>
    refine ifn (decide_eq_false c0) ⟨szB (by decide), fun L hL => ?_⟩
    have eL : ([] : List V) = (lnsOf t).map V.str := by unfold lnsOf; rw [if_pos (Decidable.not_not.mp c0)]; rfl
    have hLs : (upd (upd (upd H R (.lst [])) O (.lst [])) L (.lst ([]))) L = some (.lst ((lnsOf t).map V.str)) := by rw [upd_same]; exact congrArg (fun z => some (HO.lst z)) eL
    have hR1 : (upd (upd (upd H R (.lst [])) O (.lst [])) L (.lst ([]))) R = some (.lst []) := by rw [upd_ne (ne_of_none hR0 hL)]; exact hR0
    have hO1 : (upd (upd (upd H R (.lst [])) O (.lst [])) L (.lst ([]))) O = some (.lst []) := by rw [upd_ne (ne_of_none upd_same hL)]; exact upd_same
    have s1 := same_new sO hL (.lst ([]))
    have nLR : L ≠ R := (ne_of_none hR0 hL).symm
    have nLO : L ≠ O := (ne_of_none (show (upd (upd H R (.lst [])) O (.lst [])) O = some (.lst []) from upd_same) hL).symm
    have fO : H O = none := sR.free hO
    generalize upd (upd (upd H R (.lst [])) O (.lst [])) L (.lst ([])) = H1 at hLs hR1 hO1 s1 ⊢
  all_goals
    obtain ⟨l1, l2⟩ := lo
    refine ⟨L, _, rfl, SqL.of hLs, 1, rfl, by decide, by decide, SqL.of hLs, ?_⟩
    refine for_it walk_enumK (fun i σ H' => ∃ (rs : List V) (v3 v4 v5 : Option V), σ = [some (.str t), some (.ref R), some (.ref O), v3, v4, v5] ∧ Same H H' ∧ H' L = some (.lst ((lnsOf t).map V.str)) ∧ H' R = some (.lst rs) ∧ H' O = some (.lst ((((lnsOf t).take i).map opn).map V.str)) ∧ rs.length = i ∧ (∀ r ∈ rs, RuG CR H' r) ∧ fw (lnsOf t) = fwGo i ((lnsOf t).drop i) (((lnsOf t).take i).map opn) ∧ i ≤ 6)
      ⟨[], none, none, none, rfl, s1, hLs, hR1, hO1, rfl, (fun _ z => nomatch z), rfl, by decide⟩ (fun i σ H' _ ⟨_, _, _, _, _, _, z, _⟩ => SqL.of z) ?_ ?_
    · rintro i x σ H2 H3 hi ⟨rs, v3, v4, v5, rfl, s2, h2L, h2R, h2O, hrl, hru, efw, hi6⟩ ⟨T', x', y', rfl, hT, rfl, ex, ey⟩
      cases ex
      dsimp only at ey
      rw [List.getElem?_map] at ey
      obtain ⟨l, hl, rfl⟩ := Option.map_eq_some_iff.mp ey
      have gl := l2 l (List.mem_of_getElem? hl)
      have ed : (lnsOf t).drop i = l :: (lnsOf t).drop (i + 1) := by
        obtain ⟨hlt, eg⟩ := List.getElem?_eq_some_iff.mp hl
        rw [← eg]; exact List.drop_eq_getElem_cons hlt
      have et : ((lnsOf t).take (i + 1)).map opn = ((lnsOf t).take i).map opn ++ [opn l] := by rw [List.take_add_one, hl, List.map_append]; rfl
      rw [ed, fwGo_cons] at efw
      have s3 := same_new s2 hT (.tup [.int ((1 : Int) + (i : Int)), .str l])
      have s23 := same1 hT (.tup [.int ((1 : Int) + (i : Int)), .str l])
      have h3L := s23 _ _ h2L
      have h3R := s23 _ _ h2R
      have h3O := s23 _ _ h2O
      have hru3 : ∀ r ∈ rs, RuG CR (upd H2 T' (.tup [.int ((1 : Int) + (i : Int)), .str l])) r := fun r hr => (hru r hr).same s23
      refine ⟨T', _, rfl, SqT.of upd_same, rfl, _, _, rfl, _, _, rfl, rfl, ?_⟩
      generalize upd H2 T' (.tup [.int ((1 : Int) + (i : Int)), .str l]) = H3 at s3 s23 h3L h3R h3O hru3 ⊢
      refine ⟨_, rfl, _, _, rfl, rfl, _, rfl, ?_⟩
      have e6 : decide ((6 : Int) < (1 : Int) + (i : Int)) = decide (6 ≤ i) := decide_eq_decide.mpr (by omega)
      rw [e6]
      by_cases c6 : 6 ≤ i
      · rw [if_pos c6] at efw
        refine ify (decide_eq_true c6) ⟨_, rfl, rfl, _, rfl, ?_⟩
        refine ifT ⟨_, rfl, _, rfl, rfl, fun d H4 hd hx s4 => ?_⟩
        refine qe _ efw d H4 (fun b u z => s4 _ _ (s3 b u z)) ?_
        rw [hx]
        show some (HO.xd [("column", .int 1), ("line", .int ((1 : Int) + (i : Int)))]) = _
        rw [show ((1 : Int) + (i : Int)) = ((i + 1 : Nat) : Int) by omega]
        rfl
      rw [if_neg c6] at efw
      refine ifn (decide_eq_false c6) ⟨_, rfl, _, rfl, O, _, l, rfl, SqL.of h3O, gl.1, fun H4 s4 => ?_⟩
      have h4L := s4 _ _ h3L
      have h4R := s4 _ _ h3R
      have h4O := s4 _ _ h3O
      cases ec : wcol l (((lnsOf t).take i).map opn) with
      | some c =>
        rw [ec] at efw
        refine ⟨_, rfl, rfl, _, rfl, ?_⟩
        refine ifT ⟨_, rfl, _, rfl, rfl, fun d H5 hd hx s5 => ?_⟩
        refine qe _ efw d H5 (fun b u z => s5 _ _ (s4 _ _ (s3 b u z))) ?_
        rw [hx]
        show some (HO.xd [("column", .int (c : Int)), ("line", .int ((1 : Int) + (i : Int)))]) = _
        rw [show ((1 : Int) + (i : Int)) = ((i + 1 : Nat) : Int) by omega]
      | none =>
        rw [ec] at efw
        dsimp only at efw
        have cv := wcol_cv ec
        obtain ⟨b1, b2, b3⟩ := spS_bnd l
        refine ⟨_, rfl, rfl, _, rfl, ?_⟩
        refine ifF ?_
        have sH4 : Same H H4 := fun b u z => s4 _ _ (s3 b u z)
        refine ⟨_, rfl, .inl ⟨rfl, _, SqL.of h4R⟩, _, rfl, ⟨_, rfl⟩, _, _, rfl, rfl, by decide +kernel, szB (by have := gl.1; omega), fun W hW => ?_⟩
        intro a dx na ndx ne
        have hz1 := gl.1
        refine ⟨a, dx, W, spS l, _, rfl, upd_same, ?_, cv, by omega, fun k cl nd es db ln z1 z2 z3 H6 k6 ha6 => ⟨rfl, ?_⟩⟩
        · have : (upd H4 W (.lst ((spS l).map V.str))) W = some (.lst ((spS l).map V.str)) := upd_same
          refine SqL.of ?_
          rw [upd_ne (ne_of_none this na), upd_ne (ne_of_none this ndx)]
          exact this
        have nfa : ∀ b u, H4 b = some u → H6 b = some u := fun b u z => by
          have z1 := same1 hW (.lst ((spS l).map V.str)) b u z
          have n1 := ne_of_none z1 na
          have n2 := ne_of_none z1 ndx
          exact k6 b u n1 (by rw [upd_ne n1, upd_ne n2]; exact z1)
        have h6L := nfa _ _ h4L
        have h6R := nfa _ _ h4R
        have h6O := nfa _ _ h4O
        have sH6 : Same H H6 := fun b u z => nfa b u (sH4 b u z)
        refine ⟨R, rs, _, rfl, rfl, h6R, szL (by omega), ?_⟩
        have h7R : (upd H6 R (.lst (rs ++ [.ref a]))) R = some (.lst (rs ++ [.ref a])) := upd_same
        have h7O : (upd H6 R (.lst (rs ++ [.ref a]))) O = some (.lst ((((lnsOf t).take i).map opn).map V.str)) := by rw [upd_ne nRO.symm]; exact h6O
        have h7a : (upd H6 R (.lst (rs ++ [.ref a]))) a = some (.ins CR dx (ruF k ((spS l).getD 1 "") cl nd es db ln)) := by rw [upd_ne (ne_of ha6 h6R fun z => nomatch z)]; exact ha6
        refine ⟨_, rfl, .inl ⟨rfl, _, SqL.of h7O⟩, _, rfl, _, rfl, R, _, _, .ref a, rfl, rfl, SqL.of h7R, atI_last _ _, a, CR, dx, _, .str (opn l), rfl, h7a, A0.iR.cl, A0.r2, rfl, O, _, _, rfl, rfl, h7O, szL (by rw [List.length_map, List.length_map, List.length_take]; omega), ?_⟩
        have sH7 : Same H (upd (upd H6 R (.lst (rs ++ [.ref a]))) O (.lst ((((lnsOf t).take i).map opn).map V.str ++ [.str (opn l)]))) := fun b u z => by
          rw [upd_ne (ne_of_none z fO), upd_ne (ne_of_none z hR)]
          exact sH6 b u z
        refine ⟨rs ++ [.ref a], _, _, _, rfl, sH7, by rw [upd_ne nLO, upd_ne nLR]; exact h6L, by rw [upd_ne nRO]; exact h7R, by rw [upd_same, et, List.map_append]; rfl, by rw [List.length_append, hrl]; rfl, fun r hr => ?_, by rw [et]; exact efw, by omega⟩
        have grow : ∀ r, RuG CR H6 r → RuG CR (upd (upd H6 R (.lst (rs ++ [.ref a]))) O (.lst ((((lnsOf t).take i).map opn).map V.str ++ [.str (opn l)]))) r := fun r g => (g.updL h6R).updL h7O
        rcases List.mem_append.mp hr with hr | hr
        · exact grow r ((hru3 r hr).ext fun b u z _ => nfa b u (s4 b u z))
        · rw [List.mem_singleton.mp hr]
          refine grow _ ⟨a, dx, k, _, cl, nd, es, db, ln, rfl, ha6, ?_, z1, z2, z3⟩
          have hg : (spS l).getD 1 "" = (spS l)[1]'(by have := cv.2.1; omega) := getD_at _
          rw [hg]
          exact (mk_len (vd_1 cv.1 (by have := cv.2.1; omega))).2
    · rintro σ H2 ⟨rs, v3, v4, v5, rfl, s2, h2L, h2R, h2O, hrl, hru, efw, hi6⟩
      rw [List.length_map] at efw hrl hi6
      rw [List.drop_length] at efw
      refine ⟨_, rfl, R, rs, rfl, .inl ⟨SqL.of h2R, fun l hl => ?_⟩⟩
      exact qo efw _ l rs (same_new s2 hl _) upd_same (by omega) fun r hr => (hru r hr).same (same1 hl _)

end
end Vf

set_option maxRecDepth 100000
set_option maxHeartbeats 4000000
namespace Vf
open PySem PySem.Spec PyProof.Rows L2 SX
section
variable {P : Program} {w : World} {K : PySem.W.Frag} {mg : Str → Option Value} {base : Heap}
theorem ok_Reader_init {f : Addr} {fd : FuncData} {q : Str} {CR CD CG P0 : Addr} (M : Mk K CD f) (gc : mg "Reader" = some (.ref CD)) (F : C8.Fun K "__init__" q s_Reader_init f fd) (b : Binds K fd ["self", "rules"] []) (T : Tx K w mg) (A0 : Ca K CR CD CG) (C_longestFirst : C8.Cal P w K mg base 4 "longest_first" (sp_longestFirst K P0) []) (C_pieceMarks : C8.Cal P w K mg base 1 "piece_marks" (sp_pieceMarks K CR) []) : C8.Mak P w K mg base 5 "Reader" CD (sp_Reader_init K CR CD P0) [] := by
  refine C8.mak0 M gc F b .nil sc_Reader_init (fun vs H Q E h => ?_) (fun cdv A outer s H vs Q E hr h => ?_)
  · obtain ⟨a, dx, b, rs, rfl, _⟩ := h; rfl
  have hu := hu_of hr
  refine ⟨_, (pss_cons (ps_fld (pv 0) (pv 1) rfl)
      (pss_cons (ps_set (i := 2) sc_Reader_init.nd rfl (Or.inl rfl) (pe_dispXK (P := P) (w := w) (K := K) rfl rfl rfl (Nat.lt_of_succ_lt hu) (C8.pe_gc rfl (Classical.choose_spec T.g_CODE).1) (C8.pe_c C_longestFirst hr (by decide) rfl (pa_cons (pe_lc (own := [("number", 3), ("rule", 4)]) (g := (gTup K 2 (gCons (gName 3) (gCons (gName 4) gNil)))) (tt := tYes) rfl sc_Reader_init.nd (pi_enumT (by rfl) T.z_enumerate (pa_cons (pv 1) pa_nil)) (blkOk_by (N := N_Reader_init) (sc := C8.fnScope s_Reader_init) (by decide +kernel)) (fun _ _ _ _ _ => pg_tup (by rfl) (pgs_cons (pg_name (i := 3) sc_Reader_init.nd rfl (Or.inl rfl)) (pgs_cons (pg_name (i := 4) sc_Reader_init.nd rfl (Or.inl rfl)) pgs_nil))) (fun _ _ _ _ _ => pts_nil) (fun _ _ _ _ _ => (pe_tup (pa_cons (pe_fldK (K := K) rfl (pv 4) rfl) (pa_cons (pe_tup (pa_cons (pv 3) (pa_cons pe_int (pa_cons pe_int pa_nil)))) pa_nil))))) pa_nil))))
      (pss_cons (ps_for PassesOwn.never rfl (pi_enumT (by rfl) T.z_enumerate (pa_cons (pv 1) pa_nil)) (pg_tup rfl (pgs_cons (pg_name (i := 3) sc_Reader_init.nd rfl (Or.inl rfl)) (pgs_cons (pg_name (i := 4) sc_Reader_init.nd rfl (Or.inl rfl)) pgs_nil)))
      (pss_one (ps_for PassesOwn.never rfl (pi_range2 (by rfl) T.z_range (pa_cons pe_int (pa_cons (pe_op op_add (pe_callB (call_max2 rfl) (by rfl) T.z_max (by decide +kernel) (pa_cons (pe_fld (pv 4) rfl) (pa_cons pe_int pa_nil))) pe_int) pa_nil))) (pg_name (i := 5) sc_Reader_init.nd rfl (Or.inl rfl))
      (pss_one (ps_dputXK (P := P) (w := w) (K := K) rfl rfl rfl hu (pv 2) (pe_tup (pa_cons (pv 3) (pa_cons (pv 5) (pa_cons pe_int pa_nil)))) (C8.pe_c C_longestFirst hr (by decide) rfl (pa_cons (C8.pe_c C_pieceMarks hr (by decide) rfl (pa_cons (pv 4) (pa_cons (pv 3) (pa_cons (pv 5) pa_nil)))) pa_nil)) rfl)))))
      (pss_one (ps_fld (pv 0) (pv 2) rfl))))), ?_⟩

  obtain ⟨a, dx, b, rs, rfl, ha, hb, hz, hru, tb, q⟩ := h
  have clD := A0.iD.cl
  have clR := A0.iR.cl
  have gC := (Classical.choose_spec T.g_CODE).2
  refine ⟨_, rfl, _, rfl, a, CD, dx, _, rfl, ha, clD, A0.d1, by decide, ?_⟩
  rw [show putF (Str.ofString "parts") (V.ref b) [] = [(Str.ofString "parts", V.ref b)] from rfl]
  have nab : b ≠ a := ne_of hb ha fun z => nomatch z
  have hb1 : (upd H a (.ins CD dx [("parts", .ref b)])) b = some (.tup rs) := by rw [upd_ne nab]; exact hb
  have ha1 : (upd H a (.ins CD dx [("parts", .ref b)])) a = some (.ins CD dx [("parts", .ref b)]) := upd_same
  have hru1 : ∀ r ∈ rs, RuG CR (upd H a (.ins CD dx [("parts", .ref b)])) r := fun r hr => by
    obtain ⟨a', dx', k, op, cx, nd, es, db, ln, e, h1, h2⟩ := hru r hr
    refine ⟨a', dx', k, op, cx, nd, es, db, ln, e, ?_, h2⟩
    rw [upd_ne fun z => by rw [z, ha] at h1; cases h1]
    exact h1
  have tb1 : LamX.Tabs (T0 P0) (upd H a (.ins CD dx [("parts", .ref b)])) := tabs_upd tb ha (fun _ z => nomatch z) fun _ _ z => nomatch z
  have x1 : ExX a H (upd H a (.ins CD dx [("parts", .ref b)])) := fun c o n z _ => by rw [upd_ne n]; exact z
  generalize upd H a (.ins CD dx [("parts", .ref b)]) = H1 at hb1 ha1 hru1 tb1 x1 ⊢
  refine fun p hp => ⟨_, rfl, b, rs, rfl, SqT.of (by rw [upd_ne (ne_of_none hb1 hp)]; exact hb1), fun D hD => ?_⟩
  have hp1 : (upd H1 p (DX P w p [])) p = some (DX P w p []) := upd_same
  have s1 := same1 hp (DX P w p [])
  generalize hH2 : upd H1 p (DX P w p []) = H2 at hp1 s1 hD ⊢
  have tb2 : LamX.Tabs (T0 P0) H2 := tb1.ext s1
  refine lc_it walk_enumT (fun i H' => ∃ ms, PInv K H2 D i ms H') ⟨[], upd_same, same1 hD _, Nat.le_refl _, fun _ z => nomatch z⟩ (fun i H' _ ⟨_, z⟩ => SqT.of (z.2.1 _ _ (s1 _ _ hb1))) ?_ ?_
  · rintro i x H3 H4 hi ⟨ms, pi⟩ ⟨T', x', r, rfl, hT, rfl, ex, er⟩
    cases ex
    dsimp only at er
    obtain ⟨a', dx', k, op, cx, nd, es, db, ln, rfl, g1, g2, g3⟩ := hru1 r (List.mem_of_getElem? er)
    have sT := same1 hT (.tup [.int (i : Int), .ref a'])
    have g4 := sT _ _ (pi.2.1 _ _ (s1 _ _ g1))
    refine ⟨T', _, rfl, SqT.of upd_same, rfl, _, _, rfl, _, _, rfl, rfl, rfl, ?_⟩
    dsimp only [tYes]
    rw [if_pos rfl]
    refine ⟨_, rfl, a', CR, dx', _, _, rfl, g4, clR, A0.r2, rfl, _, rfl, sz_3, fun t1 ht1 => ⟨sz_2, fun t ht => ?_⟩⟩
    have s2 := same_new sT ht1 (.tup [.int (i : Int), .int 1, .int 0])
    have s3 := same_new s2 ht (.tup [.str op, .ref t1])
    exact ⟨ms, s3 _ _ pi.1, szL (by have := pi.2.2.1; omega), _, pinv_push hD pi s3 upd_same (by omega)⟩
  · rintro H3 ⟨ms, pi⟩
    refine ⟨D, ms, rfl, SqL.of pi.1, by have := pi.2.2.1; omega, pi.2.2.2, tb2.ext pi.2.1, fun H4 v e4 tb4 => ?_⟩
    have hp4 := e4 _ _ (pi.2.1 _ _ hp1) dx_ne.1
    refine ⟨[.inl (-1), .inl 0, .inl 0], _, hp4, rfl, gC H4, fun u nc => ?_⟩
    have e14 : LamX.ExtN H1 H4 := fun c o z n => e4 c o (pi.2.1 _ _ (s1 _ _ z)) n
    have nf : ∀ {c o}, H1 c = some o → c ≠ p := fun z => ne_of_none z hp
    -- the loops
    refine ⟨_, rfl, b, rs, rfl, SqT.of (by rw [upd_ne (nf hb1)]; exact e14 _ _ hb1 (fun _ z => nomatch z)), ?_⟩
    have start : ∃ xs : List Ent, (upd H4 p (DX P w p [([.inl (-1), .inl 0, .inl 0], Classical.choose T.g_CODE, u)])) p = some (DX P w p xs) ∧ EntsAt K (upd H4 p (DX P w p [([.inl (-1), .inl 0, .inl 0], Classical.choose T.g_CODE, u)])) xs ∧ xs.length ≤ 1 + 4 * 0 ∧ LamX.ExtN H1 (upd H4 p (DX P w p [([.inl (-1), .inl 0, .inl 0], Classical.choose T.g_CODE, u)])) ∧ LamX.Tabs (T0 P0) (upd H4 p (DX P w p [([.inl (-1), .inl 0, .inl 0], Classical.choose T.g_CODE, u)])) := by
      refine ⟨_, upd_same, fun y hy => ?_, by show 1 ≤ 1; decide, fun c o z n => by rw [upd_ne (nf z)]; exact e14 c o z n, tabs_updN tb4 hp4 dx_ne.1 nc⟩
      rw [List.mem_singleton.mp hy]
      exact gC _
    refine for_it walk_enumT (fun i σ H' => ∃ (v3 v4 v5 : Option V), σ = [some (.ref a), some (.ref b), some (.ref p), v3, v4, v5] ∧ ∃ xs : List Ent, H' p = some (DX P w p xs) ∧ EntsAt K H' xs ∧ xs.length ≤ 1 + 4 * i ∧ LamX.ExtN H1 H' ∧ LamX.Tabs (T0 P0) H')
      ⟨none, none, none, rfl, start⟩ (fun i σ H' _ ⟨_, _, _, _, _, _, _, _, z, _⟩ => SqT.of (z _ _ hb1 fun _ z => nomatch z)) ?_ ?_
    · rintro i x σ H5 H6 hi ⟨v3, v4, v5, rfl, xs, d1, d2, d3, d4, d5⟩ ⟨T', x', r, rfl, hT, rfl, ex, er⟩
      cases ex
      dsimp only at er
      have hri := hru1 r (List.mem_of_getElem? er)
      have hril := (List.getElem?_eq_some_iff.mp er).1
      refine ⟨T', _, rfl, SqT.of upd_same, rfl, _, _, rfl, _, _, rfl, rfl, ?_⟩
      have sT := same1 hT (.tup [.int (i : Int), r])
      have d1' := sT _ _ d1
      have d2' : EntsAt K (upd H5 T' (.tup [.int (i : Int), r])) xs := EntsAt.ext d2 (extN_same sT)
      have d4' : LamX.ExtN H1 (upd H5 T' (.tup [.int (i : Int), r])) := d4.trans (extN_same sT)
      have d5' := d5.ext sT
      generalize upd H5 T' (.tup [.int (i : Int), r]) = H6 at d1' d2' d4' d5' ⊢
      obtain ⟨a', dx', k, op, cx, nd, es, db, ln, rfl, g1, g2, g3, g5, g6⟩ := hri
      have g4 := d4' _ _ g1 (fun _ z => nomatch z)
      refine ⟨_, rfl, a', CR, dx', _, _, rfl, g4, clR, A0.r4, rfl, _, _, rfl, _, _, rfl, rfl, ?_⟩
      obtain ⟨n, hn1, hn2, hn3⟩ : ∃ n : Nat, 1 ≤ n ∧ n ≤ 4 ∧ (if (1 : Int) > (nd : Int) then (1 : Int) else (nd : Int)) = (n : Int) := by
        by_cases z : (1 : Int) > (nd : Int)
        · exact ⟨1, by decide, by decide, by rw [if_pos z]; rfl⟩
        · exact ⟨nd, by omega, g5, by rw [if_neg z]⟩
      rw [hn3]
      refine ⟨1, _, rfl, ⟨by decide, by decide, by omega, by omega⟩, ?_⟩
      refine for_range (lo := 1) (n := ((n : Int) + 1 - 1).toNat) (fun j σ H' => ∃ (v5 : Option V), σ = [some (.ref a), some (.ref b), some (.ref p), some (.int (i : Int)), some (.ref a'), v5] ∧ ∃ xs : List Ent, H' p = some (DX P w p xs) ∧ EntsAt K H' xs ∧ xs.length ≤ 1 + 4 * i + j ∧ LamX.ExtN H1 H' ∧ LamX.Tabs (T0 P0) H')
        ⟨_, rfl, xs, d1', d2', by omega, d4', d5'⟩ ?_ ?_
      · rintro j σ H7 hj ⟨v5, rfl, xs, d1, d2, d3, d4, d5⟩
        have g7 : RuG CR H7 (.ref a') := ⟨a', dx', k, op, cx, nd, es, db, ln, rfl, d4 _ _ g1 (fun _ z => nomatch z), g2, g3, g5, g6⟩
        refine ⟨_, rfl, _, rfl, _, rfl, .ref a', i, 1 + j, by rw [show (1 : Int) + (j : Int) = ((1 + j : Nat) : Int) by omega]; rfl, g7, fun H8 L ms s8 hL hLs hms hmk => ?_⟩
        refine ⟨L, ms, rfl, SqL.of hLs, by omega, hmk, d5.ext s8, fun H9 v e9 tb9 => ?_⟩
        have e79 : LamX.ExtN H7 H9 := fun c o z n => e9 c o (s8 _ _ z) n
        have d19 := e79 _ _ d1 dx_ne.1
        refine ⟨_, rfl, _, rfl, _, rfl, sz_3, fun t ht => ?_⟩
        have st := same1 ht (.tup [.int (i : Int), .int (1 + (j : Int)), .int 0])
        refine ⟨p, xs, [.inl (i : Int), .inl (1 + (j : Int)), .inl 0], t, rfl, st _ _ d19, EntsAt.ext (EntsAt.ext d2 e79) (extN_same st), rfl, SqT.of upd_same, szB (by omega), fun u nc => ?_⟩
        refine ⟨_, rfl, _, upd_same, ?_, ?_, ?_, ?_⟩
        · refine EntsAt.updX (ents_stored (EntsAt.ext (EntsAt.ext d2 e79) (extN_same st)) (SqT.of upd_same)) (st _ _ d19)
        · have := storedH_length xs [.inl (i : Int), .inl (1 + (j : Int)), .inl 0] t u
          omega
        · exact fun c o z n => by
            rw [upd_ne (nf z)]
            exact st _ _ (e79 _ _ (d4 c o z n) n)
        · exact tabs_updN (tb9.ext st) (st _ _ d19) dx_ne.1 nc
      · rintro σ H7 ⟨v5, rfl, xs, d1, d2, d3, d4, d5⟩
        exact ⟨_, _, _, rfl, xs, d1, d2, by omega, d4, d5⟩
    · rintro σ H5 ⟨v3, v4, v5, rfl, xs, d1, d2, d3, d4, d5⟩
      have ha5 := d4 _ _ ha1 (fun _ z => nomatch z)
      refine ⟨_, rfl, _, rfl, a, CD, dx, _, rfl, ha5, clD, A0.d2, (by decide : (1 : Nat) < 1000), ?_⟩
      refine q _ (fun c o n z m => ?_) (tabs_upd d5 ha5 (fun _ z => nomatch z) fun _ _ z => nomatch z)
      rw [upd_ne n]
      exact d4 _ _ (x1 c o n z m) m

end
end Vf

set_option maxRecDepth 100000
set_option maxHeartbeats 4000000
namespace Vf
open PySem PySem.Spec PyProof.Rows L2 SX
section
variable {P : Program} {w : World} {K : PySem.W.Frag} {mg : Str → Option Value} {base : Heap}
theorem ok_refused {f : Addr} {fd : FuncData} {CG CL CS CC CT CBadWord CBadNumber CBadStep CTooMany CNoTongue CW : Addr} (F : C8.Def K mg "_law_refused" s_refused f fd) (b : Binds K fd ["_law_steps", "_law_reading"] []) (T : Tx K w mg) (ES : Es P w K mg base CT CBadWord CBadNumber CBadStep CTooMany CNoTongue CW) (CX_Script : MakX P w K mg base 5 "Script" CC (sp_Script_init K CL CS CG CC CBadStep CTooMany CNoTongue CBadWord)) : C8.Cal P w K mg base 7 "_law_refused" (sp_refused K CL CS CG CC) [] := by
  refine C8.cal0 F b .nil sc_refused (fun vs H Q E h => ?_) (fun cdv A outer s H vs Q E hr h => ?_)
  · obtain ⟨L, tv, xs, its, r, rfl, _⟩ := h; rfl
  have hu := hu_of hr
  refine ⟨_, (pss_cons (ps_try_ma (i := 2) rfl rfl sc_refused.nd rfl rfl takes0 (fun W pn xe tk _ => (pss_one (ps_expr (pe_mkX CX_Script hr (by decide) rfl tk (pa_cons (pv 0) (pa_cons (pv 1) pa_nil))))))
      (HdsA.cons ⟨rfl, by decide, .inl ES.r_TooMany.rc.g⟩ (fun a oe cls d pn hz hf => (pss_one (ps_ret (pe_tup (pa_cons (pe_xf (ES.r_TooMany.rc.x) (ES.r_TooMany.no "what" (by simp)) hz hf (pv 2)) (pa_cons (pe_xf (ES.r_TooMany.rc.x) (ES.r_TooMany.no "many" (by simp)) hz hf (pv 2)) (pa_cons (pe_xf (ES.r_TooMany.rc.x) (ES.r_TooMany.no "limit" (by simp)) hz hf (pv 2)) pa_nil))))))) (HdsA.cons ⟨rfl, by decide, .inl ES.r_BadStep.rc.g⟩ (fun a oe cls d pn hz hf => (pss_one (ps_ret (pe_tup (pa_cons pe_str (pa_cons (pe_xf (ES.r_BadStep.rc.x) (ES.r_BadStep.no "number" (by simp)) hz hf (pv 2)) (pa_cons (pe_callB (call_isE2 hz hf) (by rfl) T.z_isinstance (by decide +kernel) (pa_cons (pv 2) (pa_cons (pe_cls (ES.g_WorkshopError) rfl) pa_nil))) pa_nil))))))) (HdsA.cons ⟨rfl, by decide, .inl ES.r_NoTongue.rc.g⟩ (fun a oe cls d pn hz hf => (pss_one (ps_ret (pe_tup (pa_cons pe_str (pa_cons (pe_xf (ES.r_NoTongue.rc.x) (ES.r_NoTongue.no "number" (by simp)) hz hf (pv 2)) (pa_cons (pe_callB (call_isE2 hz hf) (by rfl) T.z_isinstance (by decide +kernel) (pa_cons (pv 2) (pa_cons (pe_cls (ES.g_WorkshopError) rfl) pa_nil))) pa_nil))))))) (HdsA.cons ⟨rfl, by decide, .inl ES.r_BadWord.rc.g⟩ (fun a oe cls d pn hz hf => (pss_one (ps_ret (pe_tup (pa_cons pe_str (pa_cons (pe_xf (ES.r_BadWord.rc.x) (ES.r_BadWord.no "what" (by simp)) hz hf (pv 2)) (pa_cons (pe_callB (call_isE2 hz hf) (by rfl) T.z_isinstance (by decide +kernel) (pa_cons (pv 2) (pa_cons (pe_cls (ES.g_WorkshopError) rfl) pa_nil))) pa_nil))))))) HdsA.nil)))))
      (pss_one (ps_ret pe_non))), ?_⟩

  obtain ⟨L, tv, xs, its, r, rfl, hL, hi, hl, hr0, q⟩ := h
  refine ⟨_, rfl, _, rfl, fun x dx hx hdx ne => ?_⟩
  have sx := same_new (same1 hdx (.own x)) (by rw [upd_ne ne.symm]; exact hx) (.ins CC dx [])
  have keep : ∀ H1 : Hp, (∀ b o, b ≠ x → (upd (upd H dx (.own x)) x (.ins CC dx [])) b = some o → H1 b = some o) → Same H H1 := fun H1 k b o z => k b o (ne_of_none z hx) (sx _ _ z)
  have hr1 : RdAt CG (upd (upd H dx (.own x)) x (.ins CC dx [])) tv r := by
    cases r with
    | no => exact hr0
    | tongue => obtain ⟨a, t, e, d1, e1, e2, e3, z1, z2⟩ := hr0; exact ⟨a, t, e, d1, e1, e2, e3, sx _ _ z1, sx _ _ z2⟩
    | bad => exact hr0.imp id (Or.imp id fun ⟨a, zs, e, z⟩ => ⟨a, zs, e, sx _ _ z⟩)
  refine ⟨x, dx, L, tv, xs, its, r, rfl, upd_same, hL.imp (fun z => sx _ _ z) (fun z => sx _ _ z), ⟨hi.1, fun j v i a b => ⟨(hi.2 j v i a b).1.sm sx, (hi.2 j v i a b).2⟩⟩, hl, hr1, fun e H1 k1 sc => ⟨rfl, ?_⟩, fun e H1 k1 => ?_⟩
  · have s1 := keep H1 k1
    rw [e] at q
    exact q H1 .non s1 .non
  · have s1 := keep H1 k1
    generalize dueF its r = du at q e
    cases du with
    | fine => exact absurd rfl e
    | steps n =>
      intro d H' sm hd
      refine ⟨true, ES.e11, fun _ b hb => ?_, fun z => nomatch z⟩
      refine ⟨_, rfl, rfl, rfl, d, _, _, rfl, hd, rfl, _, rfl, rfl, rfl, d, _, _, rfl, hd, rfl, _, rfl, rfl, rfl, d, _, _, rfl, hd, rfl, szB (show 3 ≤ 1000000 by decide), fun T0 hT => ?_⟩
      exact q _ _ (fun b o z => same1 hT _ _ _ (sm _ _ (s1 _ _ z))) (.tup (SqT.of upd_same) (.cons (.str _) (.cons (.int _) (.cons (.int _) .nil))))
    | growth n =>
      intro d H' sm hd
      refine ⟨true, ES.e11, fun _ b hb => ?_, fun z => nomatch z⟩
      refine ⟨_, rfl, rfl, rfl, d, _, _, rfl, hd, rfl, _, rfl, rfl, rfl, d, _, _, rfl, hd, rfl, _, rfl, rfl, rfl, d, _, _, rfl, hd, rfl, szB (show 3 ≤ 1000000 by decide), fun T0 hT => ?_⟩
      exact q _ _ (fun b o z => same1 hT _ _ _ (sm _ _ (s1 _ _ z))) (.tup (SqT.of upd_same) (.cons (.str _) (.cons (.int _) (.cons (.int _) .nil))))
    | step k =>
      intro d H' sm hd
      refine ⟨false, ES.e21, (fun z => nomatch z), fun _ => ⟨true, ES.e22, fun _ b hb => ?_, fun z => nomatch z⟩⟩
      refine ⟨_, rfl, rfl, rfl, d, _, _, rfl, hd, rfl, _, rfl, CBadStep, d, _, _, _, true, rfl, rfl, hd, rfl, ES.cS, (fun u z => z), ES.tS, szB (show 3 ≤ 1000000 by decide), fun T0 hT => ?_⟩
      exact q _ _ (fun b o z => same1 hT _ _ _ (sm _ _ (s1 _ _ z))) (.tup (SqT.of upd_same) (.cons (.str _) (.cons (.int _) (.cons (.bl _) .nil))))
    | tongue k =>
      intro d H' sm hd
      refine ⟨false, ES.e31, (fun z => nomatch z), fun _ => ⟨false, ES.e32, (fun z => nomatch z), fun _ => ⟨true, ES.e33, fun _ b hb => ?_, fun z => nomatch z⟩⟩⟩
      refine ⟨_, rfl, rfl, rfl, d, _, _, rfl, hd, rfl, _, rfl, CNoTongue, d, _, _, _, true, rfl, rfl, hd, rfl, ES.cN, (fun u z => z), ES.tN, szB (show 3 ≤ 1000000 by decide), fun T0 hT => ?_⟩
      exact q _ _ (fun b o z => same1 hT _ _ _ (sm _ _ (s1 _ _ z))) (.tup (SqT.of upd_same) (.cons (.str _) (.cons (.int _) (.cons (.bl _) .nil))))
    | word =>
      intro d H' sm hd
      refine ⟨false, ES.e41, (fun z => nomatch z), fun _ => ⟨false, ES.e42, (fun z => nomatch z), fun _ => ⟨false, ES.e43, (fun z => nomatch z), fun _ => ⟨true, ES.e44, fun _ b hb => ?_, fun z => nomatch z⟩⟩⟩⟩
      refine ⟨_, rfl, rfl, rfl, d, _, _, rfl, hd, rfl, _, rfl, CBadWord, d, _, _, _, true, rfl, rfl, hd, rfl, ES.cB, (fun u z => z), ES.tB, szB (show 3 ≤ 1000000 by decide), fun T0 hT => ?_⟩
      exact q _ _ (fun b o z => same1 hT _ _ _ (sm _ _ (s1 _ _ z))) (.tup (SqT.of upd_same) (.cons (.str _) (.cons (.str _) (.cons (.bl _) .nil))))

end
end Vf

set_option maxRecDepth 100000
set_option maxHeartbeats 4000000
namespace Vf
open PySem PySem.Spec PyProof.Rows L2 SX
section
variable {P : Program} {w : World} {K : PySem.W.Frag} {mg : Str → Option Value} {base : Heap}
theorem rep_of {o n : List Nat} {k : Bool} {t : Option Tst} (h : OkS ⟨"replace", some o, some n, k, t⟩) : WdOk o ∧ PtOk n ∧ (t ≠ none → k = false ∧ 10 ∉ o ∧ 10 ∉ n) := by
  cases h with
  | ex a b c d => exact ⟨b, c, fun z => (d z).2⟩
theorem tv_non {CL : Addr} {H : Hp} {t : Option Tst} {tv : V} (h : TvP CL H t tv) : (t = none ∧ tv = .non) ∨ ∃ t' c, t = some t' ∧ tv = .ref c ∧ TsAt CL H c t' := by
  cases t with
  | none => exact .inl ⟨rfl, h⟩
  | some t => obtain ⟨c, e, z⟩ := h; exact .inr ⟨t, c, rfl, e, z⟩
theorem ok_replaceStep {f : Addr} {fd : FuncData} {q : Str} {CR CD CG CL CS CC CT CBadWord CBadNumber CBadStep CTooMany CNoTongue CW : Addr} (F : C8.Fun K "replace_step" q s_replaceStep f fd) (T : Tx K w mg) (ES : Es P w K mg base CT CBadWord CBadNumber CBadStep CTooMany CNoTongue CW) (G_LineTest : mg "LineTest" = some (.ref CL)) (MN_Step_old_new_kind_test : MakN P w K mg base 1 "Step" CS (sp_Step_init CS) 1 ["old", "new", "kind", "test"] gv_old_new_kind_test) (A0 : Ca K CR CD CG) (AL : CaL K CL) (AS : CaS K CS) (AC : CaC K CC) (FL : Fgn K CL) (FS : Fgn K CS) (FC : Fgn K CC) (FG : Fgn K CG) (C_checkExchange : CalX P w K mg base 4 "check_exchange" sp_checkExchange) (C_isKind : C8.Cal P w K mg base 1 "is_kind" (sp_isKind K) []) : FnOk P w K mg base (L2.CX P w) 5 f fd ["old", "new", "kind", "test"] (sp_replaceStep CL CS) := by
  refine fnX F sc_replaceStep (fun vs H Q E h => ?_) (fun cdv A outer s H vs Q E hr h => ?_)
  · obtain ⟨o, n, k, t, tv, rfl, _⟩ := h; rfl
  have hu := hu_of hr
  refine ⟨_, (pss_cons (ps_expr (pe_cx C_checkExchange hr (by decide) rfl (takes_of rfl rfl rfl rfl) (pa_cons (pv 0) (pa_cons (pv 1) pa_nil))))
      (C8.pss_cut (ps_if (PW.pt (pw_and (pt_cmpR op_notN (pv 2) pe_non (nomark _)) (pw_and1 (pt_not (pt_val (C8.pe_c C_isKind hr (by decide) rfl (pa_cons (pv 2) pa_nil)))))))
      (pss_one (ps_rx ES.r_BadWord hr (by decide) rfl rfl (takes_of rfl rfl rfl rfl) (pa_cons pe_str pa_nil)))
      pss_nil)
      (C8.pss_cut (ps_if (PW.pt (pw_and (pt_cmpR op_notN (pv 3) pe_non (nomark _)) (pw_and1 (PW.pt (pw_or (pt_cmpR op_notN (pv 2) pe_non (nomark _)) (pw_or1 (pt_not (pt_val (pe_callB call_isi (by rfl) T.z_isinstance (by decide +kernel) (pa_cons (pv 3) (pa_cons (pe_cls (G_LineTest) rfl) pa_nil)))))))))))
      (pss_one (ps_rx ES.r_BadWord hr (by decide) rfl rfl (takes_of rfl rfl rfl rfl) (pa_cons pe_str pa_nil)))
      pss_nil)
      (C8.pss_cut (ps_if (PW.pt (pw_and (pt_cmpR op_notN (pv 3) pe_non (nomark _)) (pw_and1 (pt_cmpR op_in_sign pe_str (pv 0) rfl))))
      (pss_one (ps_rx ES.r_BadWord hr (by decide) rfl rfl (takes_of rfl rfl rfl rfl) (pa_cons pe_str pa_nil)))
      pss_nil)
      (C8.pss_cut (ps_if (PW.pt (pw_and (pt_cmpR op_notN (pv 3) pe_non (nomark _)) (pw_and1 (pt_cmpR op_in_sign pe_str (pv 1) rfl))))
      (pss_one (ps_rx ES.r_BadWord hr (by decide) rfl rfl (takes_of rfl rfl rfl rfl) (pa_cons pe_str pa_nil)))
      pss_nil)
      (pss_one (ps_ret (pe_mkN MN_Step_old_new_kind_test hr (by decide) rfl (pa_cons pe_str pa_nil) (pk_cons (pv 0) (pk_cons (pv 1) (pk_cons (pv 2) (pk_cons (pv 3) pk_nil)))))))))))), ?_⟩

  obtain ⟨o, n, k, t, tv, rfl, ok, ht, q⟩ := h
  obtain ⟨ho, hn, hx⟩ := rep_of ok
  let σ0 : L2.St := [some (.str (S o)), some (.str (S n)), some (kV k), some tv]
  refine ⟨_, rfl, _, rfl, o, n, rfl, ho, hn, fun H1 s1 => ?_⟩
  have ht1 := ht.sm s1
  refine ⟨fun σ' H' => H' = H1 ∧ σ' = σ0, ?_, ?_⟩
  · cases k with
    | true => exact ⟨_, rfl, rfl, _, rfl, ify (by rw [decide_eq_false (show ¬ (kV true = V.non) from fun z => nomatch z)]; rfl) ⟨_, rfl, rfl, _, rfl, ifF ⟨rfl, rfl⟩⟩⟩
    | false => exact ⟨_, rfl, rfl, _, rfl, ifn (by rw [decide_eq_true (show kV false = V.non from rfl)]; rfl) ⟨rfl, rfl⟩⟩
  rintro σ' H' ⟨rfl, rfl⟩
  rcases tv_non ht1 with ⟨rfl, rfl⟩ | ⟨t', c, rfl, rfl, hc⟩
  · have no : (!decide (V.non = V.non)) = false := by rw [decide_eq_true rfl]; rfl
    refine ⟨fun σ' H'' => H'' = H' ∧ σ' = σ0, ⟨_, rfl, rfl, _, rfl, ifn no ⟨rfl, rfl⟩⟩, ?_⟩
    rintro σ' H'' ⟨rfl, rfl⟩
    refine ⟨fun σ' H' => H' = H'' ∧ σ' = σ0, ⟨_, rfl, rfl, _, rfl, ifn no ⟨rfl, rfl⟩⟩, ?_⟩
    rintro σ' H' ⟨rfl, rfl⟩
    refine ⟨fun σ' H'' => H'' = H' ∧ σ' = σ0, ⟨_, rfl, rfl, _, rfl, ifn no ⟨rfl, rfl⟩⟩, ?_⟩
    rintro σ' H'' ⟨rfl, rfl⟩
    refine ⟨_, rfl, _, rfl, _, rfl, _, rfl, rfl, rfl, fun x dx hx hdx ne => ⟨x, dx, "replace", .str (S o), .str (S n), .non, k, rfl, upd_same, rfl, ?_⟩⟩
    exact st_made (s := ⟨"replace", some o, some n, k, none⟩) hx hdx ne rfl (q.at s1)
  · obtain ⟨rfl, h1, h2⟩ := hx (fun z => nomatch z)
    have ye : (!decide (V.ref c = V.non)) = true := by rw [decide_eq_false (fun z => nomatch z)]; rfl
    have ne0 : ∃ dx fs, H' c = some (.ins CL dx fs) := by
      cases t' with
      | pl p n => obtain ⟨dx, e⟩ := hc; exact ⟨dx, _, e⟩
      | rg p q n => obtain ⟨dx, b, c, e, _⟩ := hc; exact ⟨dx, _, e⟩
    obtain ⟨dc, fc, ec⟩ := ne0
    refine ⟨fun σ' H'' => H'' = H' ∧ σ' = σ0, ?_, ?_⟩
    · refine ⟨_, rfl, rfl, _, rfl, ify ye ⟨_, rfl, rfl, _, rfl, ifn (by rw [decide_eq_true (show kV false = V.non from rfl)]; rfl) ?_⟩⟩
      exact ⟨_, rfl, _, _, _, _, true, rfl, .own CL, .base (.ins ec AL.i.cl AL.i.ha AL.i.hn AL.i.htk AL.i.hm), AL.i.me, _, rfl, ifF ⟨rfl, rfl⟩⟩
    rintro σ' H'' ⟨rfl, rfl⟩
    refine ⟨fun σ' H' => H' = H'' ∧ σ' = σ0, ?_, ?_⟩
    · refine ⟨_, rfl, rfl, _, rfl, ify ye ⟨_, rfl, 10, S o, rfl, rfl, _, rfl, ?_⟩⟩
      rw [nlIn]
      exact ifn (decide_eq_false h1) ⟨rfl, rfl⟩
    rintro σ' H' ⟨rfl, rfl⟩
    refine ⟨fun σ' H'' => H'' = H' ∧ σ' = σ0, ?_, ?_⟩
    · refine ⟨_, rfl, rfl, _, rfl, ify ye ⟨_, rfl, 10, S n, rfl, rfl, _, rfl, ?_⟩⟩
      rw [nlIn]
      exact ifn (decide_eq_false h2) ⟨rfl, rfl⟩
    rintro σ' H'' ⟨rfl, rfl⟩
    refine ⟨_, rfl, _, rfl, _, rfl, _, rfl, rfl, rfl, fun x dx hx hdx ne => ⟨x, dx, "replace", .str (S o), .str (S n), .ref c, false, rfl, upd_same, rfl, ?_⟩⟩
    exact st_made (s := ⟨"replace", some o, some n, false, some t'⟩) hx hdx ne ⟨c, rfl, hc⟩ (q.at s1)

end
end Vf

set_option maxRecDepth 100000
set_option maxHeartbeats 4000000
namespace Vf
open PySem PySem.Spec PyProof.Rows L2 SX
section
variable {P : Program} {w : World} {K : PySem.W.Frag} {mg : Str → Option Value} {base : Heap}
theorem eqv_self (o : Str) : eqV (.str o) (.str o) = true := by show ((o == o) = true); exact beq_self_eq_true _
theorem none_ahead {g : List Str} {o : Str} {j : Nat} (h : ∀ m, m < j → g[m]? ≠ some o) : ∀ (m : Nat) (z : V), m < j → (g.map V.str)[m]? = some z → eqV z (.str o) = false := fun m z hm hz => by
  rw [List.getElem?_map] at hz
  obtain ⟨u, hu, rfl⟩ := Option.map_eq_some_iff.mp hz
  show (u == o) = false
  exact beq_eq_false_iff_ne.mpr fun e => h m hm (by rw [hu, e])
theorem at_next {g : List Str} {j : Nat} {u : Str} (h : g[j + 1]? = some u) : atI (g.map V.str) ((j : Int) + 1) = some (.str u) := by
  have := atI_nat (xs := g.map V.str) (j := j + 1) (v := .str u) (by rw [List.getElem?_map, h]; rfl)
  have e : (((j + 1 : Nat)) : Int) = (j : Int) + 1 := by omega
  rw [e] at this
  exact this
theorem kind_at {w : Str} (h : w = "remark" ∨ w = "quote") : ∃ c, atI w.cps.toList 0 = some c := by
  rcases h with rfl | rfl
  · exact ⟨114, by decide +kernel⟩
  · exact ⟨113, by decide +kernel⟩
theorem depth_of {w : Str} (h : w ∈ (["2", "3", "4"] : List Str)) : ∃ n : Nat, PySem.intText? w = some (n : Int) ∧ n ≤ 4 ∧ w.length ≤ 640 := by
  simp only [List.mem_cons, List.not_mem_nil, or_false] at h
  rcases h with rfl | rfl | rfl
  · exact ⟨2, by decide +kernel, by decide, by decide +kernel⟩
  · exact ⟨3, by decide +kernel, by decide, by decide +kernel⟩
  · exact ⟨4, by decide +kernel, by decide, by decide +kernel⟩
theorem ok_Rule_init {f : Addr} {fd : FuncData} {q : Str} {CR CD CG : Addr} (M : Mk K CR f) (gc : mg "Rule" = some (.ref CR)) (F : C8.Fun K "__init__" q s_Rule_init f fd) (b : Binds K fd ["self", "words"] []) (T : Tx K w mg) (A0 : Ca K CR CD CG) : C8.Mak P w K mg base 1 "Rule" CR (sp_Rule_init K CR) [] := by
  refine C8.mak0 M gc F b .nil sc_Rule_init (fun vs H Q E h => ?_) (fun cdv A outer s H vs Q E hr h => ?_)
  · obtain ⟨a, dx, wa, ws, os, rfl, _⟩ := h; rfl
  have hu := hu_of hr
  refine ⟨_, (pss_cons (ps_set (i := 2) sc_Rule_init.nd rfl (Or.inl rfl) (pe_slice sl_list (pv 1) (po_some pe_int) po_none))
      (pss_cons (ps_fld (pv 0) (pe_ix ix_str (pe_ix ix_list (pv 1) pe_int (fun _ _ => rfl)) pe_int (fun _ _ => rfl)) rfl)
      (pss_cons (ps_fld (pv 0) (pe_ix ix_list (pv 1) pe_int (fun _ _ => rfl)) rfl)
      (C8.pss_cut (ps_fld (pv 0) (pe_ifExp (pt_cmpR op_eq (pe_ix ix_list (pv 1) pe_int (fun _ _ => rfl)) pe_str (nomark _)) pe_str (pe_ix ix_list (pv 1) pe_int (fun _ _ => rfl))) rfl)
      (C8.pss_cut (ps_fld (pv 0) (pe_ifExp (pt_cmpR op_in_seq pe_str (pv 2) rfl) (pe_callTy call_int_str (by rfl) T.z_int (by decide +kernel) (pa_cons (pe_ix ix_list (pv 2) (pe_op op_add (pe_bm PySem.F.plainAttrs_list PySem.F.slot_list_index PySem.F.type_list_index mt_index (pv 2) (pa_cons pe_str pa_nil)) pe_int) (fun _ _ => rfl)) pa_nil)) pe_int) rfl)
      (C8.pss_cut (ps_fld (pv 0) (pe_ifExp (pt_cmpR op_in_seq pe_str (pv 2) rfl) (pe_ix ix_list (pv 2) (pe_op op_add (pe_bm PySem.F.plainAttrs_list PySem.F.slot_list_index PySem.F.type_list_index mt_index (pv 2) (pa_cons pe_str pa_nil)) pe_int) (fun _ _ => rfl)) pe_str) rfl)
      (pss_cons (ps_fld (pv 0) (pe_cmpR op_in_seq pe_str (pv 2) rfl) rfl)
      (pss_one (ps_fld (pv 0) (pe_or (pe_cmpR op_eq (pe_ix ix_list (pv 1) pe_int (fun _ _ => rfl)) pe_str (nomark _)) (pe_one (pe_cmpR op_in_seq pe_str (pv 2) rfl))) rfl))))))))), ?_⟩

  obtain ⟨a, dx, wa, ws, os, rfl, ha, hw, cv, hz, q⟩ := h
  have cl := A0.iR.cl
  have h4 := cv.2.1
  refine ⟨_, rfl, 4, rfl, wa, _, rfl, hw, fun G hG => ?_⟩
  have eG : cutV (ws.map V.str) (some 4) none = (ws.drop 4).map V.str := (cut_from _ 4).trans (strs_drop ws 4)
  rw [eG]
  have aG : a ≠ G := ne_of_none ha hG
  have keep : ∀ o, ∀ b u, b ≠ a → H b = some u → (upd (upd H G (.lst ((ws.drop 4).map V.str))) a o) b = some u := fun o b u n e => by rw [upd_ne n, upd_ne (ne_of_none e hG)]; exact e
  have gL : ∀ o, (upd (upd H G (.lst ((ws.drop 4).map V.str))) a o) G = some (.lst ((ws.drop 4).map V.str)) := fun o => by rw [upd_ne aG.symm]; exact upd_same
  have ha1 : (upd H G (.lst ((ws.drop 4).map V.str))) a = some (.ins CR dx []) := by rw [upd_ne aG]; exact ha
  have hw1 : SqL K (upd H G (.lst ((ws.drop 4).map V.str))) wa (ws.map V.str) := sqL_same (same1 hG _) hw
  have hw2 : ∀ o, SqL K (upd (upd H G (.lst ((ws.drop 4).map V.str))) a o) wa (ws.map V.str) := fun o => sqL_ins hw1 ha1
  obtain ⟨c0, k0⟩ := kind_at (vd_0 cv.1 (by omega))
  have m1 := mk_len (vd_1 cv.1 (by omega))
  have w3 := vd_3 cv.1 h4
  refine ⟨_, rfl, wa, _, 0, _, rfl, rfl, hw1, at_strs (i := 0) (by omega), ws[0], _, c0, rfl, rfl, ?_, k0, ?_⟩
  · rcases vd_0 cv.1 (by omega) with z | z <;> rw [z] <;> exact szB (by decide +kernel)
  refine ⟨_, rfl, a, CR, dx, _, rfl, ha1, cl, A0.r1, by decide, ?_⟩
  refine ⟨_, rfl, wa, _, 1, _, rfl, rfl, hw2 _, at_strs (i := 1) (by omega), _, rfl, a, CR, dx, _, rfl, upd_same, cl, A0.r2, (by decide : (1 : Nat) < 1000), ?_⟩
  rw [upd_upd]
  refine ⟨fun σ' H' => ∃ cx : Str, cx.length ≤ 4 ∧ σ' = [some (.ref a), some (.ref wa), some (.ref G)] ∧ H' = upd (upd H G (.lst ((ws.drop 4).map V.str))) a (.ins CR dx [("kind", .str ⟨#[c0]⟩), ("opener", .str ws[1]), ("closer", .str cx)]), ?_, ?_⟩
  · refine ⟨_, rfl, wa, _, 3, _, rfl, rfl, hw2 _, at_strs (i := 3) (by omega), rfl, _, rfl, ?_⟩
    rw [dS]
    rcases Decidable.em (ws[3] = "line") with c3 | c3
    · refine ify (decide_eq_true c3) ?_
      refine ⟨_, rfl, a, CR, dx, _, rfl, upd_same, cl, A0.r3, (by decide : (2 : Nat) < 1000), ?_⟩
      exact ⟨"", by decide +kernel, rfl, by rw [upd_upd]; rfl⟩
    · refine ifn (decide_eq_false c3) ?_
      refine ⟨_, rfl, wa, _, 3, _, rfl, rfl, hw2 _, at_strs (i := 3) (by omega), ?_⟩
      refine ⟨_, rfl, a, CR, dx, _, rfl, upd_same, cl, A0.r3, (by decide : (2 : Nat) < 1000), ?_⟩
      exact ⟨ws[3], (mk_len (w3.resolve_left c3)).2, rfl, by rw [upd_upd]; rfl⟩
  rintro σ' H' ⟨cx, hcx, rfl, rfl⟩
  refine ⟨fun σ' H' => ∃ nd : Nat, nd ≤ 4 ∧ σ' = [some (.ref a), some (.ref wa), some (.ref G)] ∧ H' = upd (upd H G (.lst ((ws.drop 4).map V.str))) a (.ins CR dx [("kind", .str ⟨#[c0]⟩), ("opener", .str ws[1]), ("closer", .str cx), ("nested", .int (nd : Int))]), ?_, ?_⟩
  · refine ⟨_, rfl, G, _, rfl, .inl (SqL.of (gL _)), rfl, flat_strs _, _, rfl, ?_⟩
    rw [if_neg Bool.false_ne_true, inV_strs]
    by_cases c4 : ("nested" : Str) ∈ ws.drop 4
    · obtain ⟨u, hu1, hu2, _⟩ := opt_next cv (.inl rfl) c4
      obtain ⟨n, n1, n2, n3⟩ := depth_of (hu2 rfl)
      obtain ⟨i1, i2⟩ := idx_first c4
      refine ify (decide_eq_true c4) ?_
      refine ⟨_, rfl, _, rfl, .inl ⟨rfl, _, SqL.of (gL _)⟩, G, _, _, (ws.drop 4).idxOf ("nested" : Str), _, rfl, rfl, SqL.of (gL _), rfl, flat_strs _, by rw [List.getElem?_map, i1]; rfl, eqv_self _, none_ahead i2, ?_⟩
      refine ⟨_, _, rfl, rfl, G, _, _, _, rfl, rfl, SqL.of (gL _), at_next hu1, u, (n : Int), rfl, n1, n3, ?_⟩
      refine ⟨_, rfl, a, CR, dx, _, rfl, upd_same, cl, A0.r4, (by decide : (3 : Nat) < 1000), ?_⟩
      exact ⟨n, n2, rfl, by rw [upd_upd]; rfl⟩
    · refine ifn (decide_eq_false c4) ?_
      refine ⟨_, rfl, a, CR, dx, _, rfl, upd_same, cl, A0.r4, (by decide : (3 : Nat) < 1000), ?_⟩
      exact ⟨0, by decide, rfl, by rw [upd_upd]; rfl⟩
  rintro σ' H' ⟨nd, hnd, rfl, rfl⟩
  refine ⟨fun σ' H' => ∃ es : Str, es.length ≤ 4 ∧ σ' = [some (.ref a), some (.ref wa), some (.ref G)] ∧ H' = upd (upd H G (.lst ((ws.drop 4).map V.str))) a (.ins CR dx [("kind", .str ⟨#[c0]⟩), ("opener", .str ws[1]), ("closer", .str cx), ("nested", .int (nd : Int)), ("escape", .str es)]), ?_, ?_⟩
  · refine ⟨_, rfl, G, _, rfl, .inl (SqL.of (gL _)), rfl, flat_strs _, _, rfl, ?_⟩
    rw [if_neg Bool.false_ne_true, inV_strs]
    by_cases c4 : ("escape" : Str) ∈ ws.drop 4
    · obtain ⟨u, hu1, _, hu2⟩ := opt_next cv (.inr rfl) c4
      obtain ⟨i1, i2⟩ := idx_first c4
      refine ify (decide_eq_true c4) ?_
      refine ⟨_, rfl, _, rfl, .inl ⟨rfl, _, SqL.of (gL _)⟩, G, _, _, (ws.drop 4).idxOf ("escape" : Str), _, rfl, rfl, SqL.of (gL _), rfl, flat_strs _, by rw [List.getElem?_map, i1]; rfl, eqv_self _, none_ahead i2, ?_⟩
      refine ⟨_, _, rfl, rfl, G, _, _, _, rfl, rfl, SqL.of (gL _), at_next hu1, ?_⟩
      refine ⟨_, rfl, a, CR, dx, _, rfl, upd_same, cl, A0.r5, (by decide : (4 : Nat) < 1000), ?_⟩
      exact ⟨u, by have := (hu2 rfl).1; omega, rfl, by rw [upd_upd]; rfl⟩
    · refine ifn (decide_eq_false c4) ?_
      refine ⟨_, rfl, a, CR, dx, _, rfl, upd_same, cl, A0.r5, (by decide : (4 : Nat) < 1000), ?_⟩
      exact ⟨"", by decide +kernel, rfl, by rw [upd_upd]; rfl⟩
  rintro σ' H' ⟨es, hes, rfl, rfl⟩
  refine ⟨_, rfl, G, _, rfl, .inl (SqL.of (gL _)), rfl, flat_strs _, ?_⟩
  rw [if_neg Bool.false_ne_true, inV_strs]
  refine ⟨_, rfl, a, CR, dx, _, rfl, upd_same, cl, A0.r6, (by decide : (5 : Nat) < 1000), ?_⟩
  rw [upd_upd]
  have e1 : ws.getD 1 "" = ws[1] := getD_at (by omega)
  have fin : ∀ ln : Bool, Q .non (upd (upd H G (.lst ((ws.drop 4).map V.str))) a (.ins CR dx (ruF ⟨#[c0]⟩ ws[1] cx nd es (decide (("doubled" : Str) ∈ ws.drop 4)) ln))) := fun ln => by
    have := q ⟨#[c0]⟩ cx nd es (decide (("doubled" : Str) ∈ ws.drop 4)) ln hcx hnd hes
    rw [e1] at this
    exact this _ (fun b u n e => keep _ b u n e) upd_same
  refine ⟨_, rfl, wa, _, 3, _, rfl, rfl, hw2 _, at_strs (i := 3) (by omega), rfl, _, rfl, ?_⟩
  rw [dS]
  rcases Decidable.em (ws[3] = "line") with c3 | c3
  · refine ify (decide_eq_true c3) ?_
    refine ⟨_, rfl, a, CR, dx, _, rfl, upd_same, cl, A0.r7, (by decide : (6 : Nat) < 1000), ?_⟩
    show Q .non _
    rw [upd_upd]
    exact fin true
  · refine ifn (decide_eq_false c3) ?_
    refine ⟨_, rfl, G, _, rfl, .inl (SqL.of (gL _)), rfl, flat_strs _, ?_⟩
    refine ⟨_, rfl, a, CR, dx, _, rfl, upd_same, cl, A0.r7, (by decide : (6 : Nat) < 1000), ?_⟩
    show Q .non _
    rw [upd_upd]
    exact fin _

end
end Vf

set_option maxRecDepth 100000
set_option maxHeartbeats 4000000
namespace Vf
open PySem PySem.Spec PyProof.Rows L2 SX
section
variable {P : Program} {w : World} {K : PySem.W.Frag} {mg : Str → Option Value} {base : Heap}
theorem ok_ruleWeight {f : Addr} {fd : FuncData} {CR CD CG : Addr} (F : C8.Def K mg "rule_weight" s_ruleWeight f fd) (b : Binds K fd ["rule"] []) (T : Tx K w mg) (A0 : Ca K CR CD CG) : C8.Cal P w K mg base 1 "rule_weight" (sp_ruleWeight CR) [] := by
  refine C8.cal0 F b .nil sc_ruleWeight (fun vs H Q E h => ?_) (fun cdv A outer s H vs Q E hr h => ?_)
  · obtain ⟨v, rfl, _⟩ := h; rfl
  have hu := hu_of hr
  refine ⟨_, (C8.pss_cut (ps_set (i := 1) sc_ruleWeight.nd rfl (Or.inl rfl) (pe_ifExp (pt_truth (pe_fld (pv 0) rfl) (by intro _; rfl)) (pe_op op_sub (pe_callB call_len (by rfl) T.z_len PySem.boot_len (pa_cons (pe_fld (pv 0) rfl) pa_nil)) pe_int) pe_int))
      (C8.pss_cut (ps_if (pt_truth (pe_fld (pv 0) rfl) (by intro _; rfl))
      (pss_one (ps_aug (i := 1) sc_ruleWeight.nd rfl (Or.inl rfl) (pe_op op_sub (pe_callB call_len (by rfl) T.z_len PySem.boot_len (pa_cons (pe_fld (pv 0) rfl) pa_nil)) pe_int) ip_add))
      pss_nil)
      (C8.pss_cut (ps_if (pt_val (pe_fld (pv 0) rfl))
      (pss_one (ps_set (i := 1) sc_ruleWeight.nd rfl (Or.inl rfl) (pe_op op_sub (pe_op op_mul pe_int (pe_callB call_len (by rfl) T.z_len PySem.boot_len (pa_cons (pe_fld (pv 0) rfl) pa_nil))) pe_int)))
      pss_nil)
      (C8.pss_cut (ps_if (pt_truth (pe_fld (pv 0) rfl) (by intro _; rfl))
      (pss_one (ps_aug (i := 1) sc_ruleWeight.nd rfl (Or.inl rfl) pe_int ip_add))
      pss_nil)
      (pss_one (ps_ret (pe_op op_add (pe_op op_sub (pe_callB call_len (by rfl) T.z_len PySem.boot_len (pa_cons (pe_fld (pv 0) rfl) pa_nil)) pe_int) (pe_op op_mul (pe_callB (call_max2 rfl) (by rfl) T.z_max (by decide +kernel) (pa_cons (pe_fld (pv 0) rfl) (pa_cons pe_int pa_nil))) (pe_op op_add pe_int (pv 1)))))))))), ?_⟩

  obtain ⟨v, rfl, ⟨a, dx, k, op, cx, nd, es, db, ln, rfl, ha, h1, h2, h3, h4⟩, q⟩ := h
  have cl := A0.iR.cl
  have q0 := fun i => q i H (same_refl H)
  have step : ∀ {t : TS} {u : TS} {D : Ends} {σ : L2.St}, t { D with nx := fun σ' H' => ∃ m : Int, σ' = [some (.ref a), some (.int m)] ∧ H' = H } σ H → (∀ m : Int, u D [some (.ref a), some (.int m)] H) → C8.tCut t u D σ H := fun h1 h2 => ⟨_, h1, fun σ' H' ⟨m, e1, e2⟩ => by rw [e1, e2]; exact h2 m⟩
  refine step ?_ fun m => step ?_ fun m => step ?_ fun m => step ?_ fun m => ?_
  · refine ⟨_, rfl, a, CR, dx, _, _, rfl, ha, cl, A0.r3, rfl, _, ⟨szB (by omega), rfl⟩, ?_⟩
    cases ((cx.length : Int) != 0) with
    | true => exact ifT ⟨_, rfl, a, CR, dx, _, _, rfl, ha, cl, A0.r3, rfl, _, cx.length, rfl, ⟨szB (by omega), rfl⟩, _, _, rfl, rfl, _, rfl, rfl⟩
    | false => exact ifF ⟨0, rfl, rfl⟩
  · refine ⟨_, rfl, a, CR, dx, _, _, rfl, ha, cl, A0.r4, rfl, _, rfl, ?_⟩
    cases ((nd : Int) != 0) with
    | true => exact ifT ⟨_, rfl, _, rfl, a, CR, dx, _, _, rfl, ha, cl, A0.r2, rfl, _, op.length, rfl, ⟨szB (by omega), rfl⟩, _, _, rfl, rfl, _, _, rfl, rfl, _, rfl, rfl⟩
    | false => exact ifF ⟨m, rfl, rfl⟩
  · refine ⟨_, rfl, a, CR, dx, _, _, rfl, ha, cl, A0.r6, rfl, _, rfl, ?_⟩
    cases db with
    | true => exact ifT ⟨_, rfl, a, CR, dx, _, _, rfl, ha, cl, A0.r3, rfl, _, cx.length, rfl, ⟨szB (by omega), rfl⟩, _, _, rfl, rfl, .inl ⟨by decide, by decide⟩, _, _, rfl, rfl, _, rfl, rfl⟩
    | false => exact ifF ⟨m, rfl, rfl⟩
  · refine ⟨_, rfl, a, CR, dx, _, _, rfl, ha, cl, A0.r5, rfl, _, ⟨szB (by omega), rfl⟩, ?_⟩
    cases ((es.length : Int) != 0) with
    | true => exact ifT ⟨_, rfl, _, _, rfl, rfl, _, rfl, rfl⟩
    | false => exact ifF ⟨m, rfl, rfl⟩
  · refine ⟨_, rfl, a, CR, dx, _, _, rfl, ha, cl, A0.r2, rfl, _, op.length, rfl, ⟨szB (by omega), rfl⟩, _, _, rfl, rfl, ?_⟩
    refine ⟨_, rfl, a, CR, dx, _, _, rfl, ha, cl, A0.r4, rfl, _, _, rfl, ?_⟩
    refine ⟨_, rfl, _, _, rfl, rfl, _, _, rfl, rfl, .inl ?_, _, _, rfl, rfl, q0 _⟩
    split <;> constructor <;> omega

end
end Vf

set_option maxRecDepth 100000
set_option maxHeartbeats 4000000
namespace Vf
open PySem PySem.Spec PyProof.Rows L2 SX
section
variable {P : Program} {w : World} {K : PySem.W.Frag} {mg : Str → Option Value} {base : Heap}
theorem ok_Script_eq {f : Addr} {fd : FuncData} {q : Str} {CR CD CG CL CS CC : Addr} (F : C8.Fun K "__eq__" q s_Script_eq f fd) (T : Tx K w mg) (G_Script : mg "Script" = some (.ref CC)) (EO_Tongue : EqO P w K mg base 1 CG (EqG CG)) (EA_Step : EqAny P w K mg base 4 CS (StR CL CS)) (A0 : Ca K CR CD CG) (AL : CaL K CL) (AS : CaS K CS) (AC : CaC K CC) (FL : Fgn K CL) (FS : Fgn K CS) (FC : Fgn K CC) (FG : Fgn K CG) : FnOk P w K mg base C8.CX0 6 f fd ["self", "other"] (spEqI (EqC CL CS CG CC)) := by
  refine C8.fn0 F sc_Script_eq (fun vs H Q E h => ?_) (fun cdv A outer s H vs Q E hr h => ?_)
  · obtain ⟨a, b, r, rfl, _⟩ := h; rfl
  have hu := hu_of hr
  refine ⟨_, (pss_one (ps_ret (pe_and (pe_callB (C8.call_isC AC.i) (by rfl) T.z_isinstance (by decide +kernel) (pa_cons (pv 1) (pa_cons (pe_cls (G_Script) rfl) pa_nil))) (pe_and (pe_cmpR (op_eqTA EA_Step hr (by decide)) (pe_fld (pv 0) rfl) (pe_fld (pv 1) rfl) (nomark _)) (pe_one (pe_cmpR (op_eqO EO_Tongue hr (by decide)) (pe_fld (pv 0) rfl) (pe_fld (pv 1) rfl) (nomark _))))))), ?_⟩
  obtain ⟨a, b, r, rfl, ⟨xs, ys, v, u, g, g', ⟨dx, st, ha, hs⟩, ⟨dy, su, hb, hs'⟩, px, py, hc⟩, k⟩ := h
  have cl := AC.i.cl
  refine ⟨_, rfl, b, dy, _, rfl, hb, true, rfl, ifT ?_⟩
  refine ⟨_, rfl, a, CC, dx, _, _, rfl, ha, cl, AC.a1, rfl, _, rfl, b, CC, dy, _, _, rfl, hb, cl, AC.a1, rfl, ?_⟩
  rcases hc with ⟨rfl, ht⟩ | ⟨hl, rfl⟩
  · refine .inl ⟨st, su, xs, rfl, rfl, SqT.of hs, SqT.of hs', fun z hz => let ⟨c, s, e, _⟩ := px z hz; ⟨c, e⟩, _, rfl, ifT ?_⟩
    refine ⟨_, rfl, a, CC, dx, _, _, rfl, ha, cl, AC.a2, rfl, _, rfl, b, CC, dy, _, _, rfl, hb, cl, AC.a2, rfl, ?_⟩
    have k0 := k H fun _ _ z => z
    rcases ht with ⟨rfl, rfl, rfl⟩ | ⟨c, d, t, t', rfl, rfl, h1, h2, rfl⟩ | ⟨⟨c, t, rfl, h1⟩, rfl, rfl⟩
    · exact .inl ⟨rfl, k0⟩
    · obtain ⟨d1, e1, e2, e3, z1, z2⟩ := id h1
      obtain ⟨d2, f1, f2, f3, y1, y2⟩ := id h2
      refine .inr (.inl ⟨c, d, _, d1, d2, _, _, rfl, rfl, z1, y1, ⟨t, t', h1, h2, rfl⟩, fun H' s' => ?_⟩)
      have k1 := k H' s'
      cases h : decide (t = t') with
      | true => rw [h] at k1; exact k1
      | false => rw [h] at k1; exact k1
    · obtain ⟨d1, e1, e2, e3, z1, z2⟩ := id h1
      exact .inr (.inr (.inl ⟨c, d1, _, _, rfl, z1, .base .non, (FG.k "NoneType" (by simp)).1, (FG.k "NoneType" (by simp)).2, k0⟩))
  · refine .inr ⟨st, su, xs, ys, rfl, rfl, SqT.of hs, SqT.of hs', fun i v w h1 h2 => ?_, fun H' r s' hr' => ⟨_, rfl, ?_⟩⟩
    · obtain ⟨c, s, rfl, z1, o1⟩ := px v (List.mem_of_getElem? h1)
      obtain ⟨d, t, rfl, z2, o2⟩ := py w (List.mem_of_getElem? h2)
      obtain ⟨d1, t1, y1, _⟩ := id z1
      obtain ⟨d2, t2, y2, _⟩ := id z2
      exact ⟨c, d, d1, d2, _, _, rfl, rfl, y1, y2, s, t, z1, z2, o1, o2⟩
    · rw [hr' hl]
      exact ifF (k H' s')
theorem ok_Script_eqF {CC : Addr} {f : Addr} {fd : FuncData} {q : Str} {CR CD CG CL CS : Addr} (gc : mg "Script" = some (.ref CC)) (F : C8.Fun K "__eq__" q s_Script_eq f fd) (T : Tx K w mg) (EO_Tongue : EqO P w K mg base 1 CG (EqG CG)) (EA_Step : EqAny P w K mg base 4 CS (StR CL CS)) : FnOk P w K mg base C8.CX0 6 f fd ["self", "other"] (spEqF K CC) := by
  refine C8.fn0 F sc_Script_eq (fun vs H Q E h => ?_) (fun cdv A outer s H vs Q E hr h => ?_)
  · obtain ⟨a, y, dx, fs, t, rfl, _⟩ := h; rfl
  have hu := hu_of hr
  refine ⟨_, (pss_one (ps_ret (pe_and (pe_callB call_isi (by rfl) T.z_isinstance (by decide +kernel) (pa_cons (pv 1) (pa_cons (pe_cls (gc) rfl) pa_nil))) (pe_and (pe_cmpR (op_eqTA EA_Step hr (by decide)) (pe_fld (pv 0) rfl) (pe_fld (pv 1) rfl) (nomark _)) (pe_one (pe_cmpR (op_eqO EO_Tongue hr (by decide)) (pe_fld (pv 0) rfl) (pe_fld (pv 1) rfl) (nomark _))))))), ?_⟩
  obtain ⟨a, y, dx, fs, t, rfl, ha, ty, kt, q⟩ := h
  exact ⟨_, rfl, _, _, t, _, false, rfl, .own CC, ty, kt, _, rfl, ifF q⟩

end
end Vf

set_option maxRecDepth 100000
set_option maxHeartbeats 4000000
namespace Vf
open PySem PySem.Spec PyProof.Rows L2 SX
section
variable {P : Program} {w : World} {K : PySem.W.Frag} {mg : Str → Option Value} {base : Heap}
theorem ok_Script_init {f : Addr} {fd : FuncData} {q : Str} {CR CD CG CL CS CC CT CBadWord CBadNumber CBadStep CTooMany CNoTongue CW : Addr} (F : C8.Fun K "__init__" q s_Script_init f fd) (T : Tx K w mg) (ES : Es P w K mg base CT CBadWord CBadNumber CBadStep CTooMany CNoTongue CW) (A0 : Ca K CR CD CG) (AL : CaL K CL) (AS : CaS K CS) (AC : CaC K CC) (FL : Fgn K CL) (FS : Fgn K CS) (FC : Fgn K CC) (FG : Fgn K CG) (C_checkSteps : CalX P w K mg base 3 "check_steps" (sp_checkSteps K CL CS CG CBadStep CTooMany CNoTongue CBadWord)) (C_growthOf : C8.Cal P w K mg base 1 "growth_of" (sp_growthOf CS) []) : FnOk P w K mg base (L2.CX P w) 5 f fd ["self", "steps", "tongue"] (sp_Script_init K CL CS CG CC CBadStep CTooMany CNoTongue CBadWord) := by
  refine fnX F sc_Script_init (fun vs H Q E h => ?_) (fun cdv A outer s H vs Q E hr h => ?_)
  · obtain ⟨a, dx, L, tv, xs, its, r, rfl, _⟩ := h; rfl
  have hu := hu_of hr
  refine ⟨_, (pss_cons (ps_expr (pe_cx C_checkSteps hr (by decide) rfl (takes_of rfl rfl rfl rfl) (pa_cons (pv 1) (pa_cons (pv 2) pa_nil))))
      (pss_cons (ps_fld (pv 0) (pe_callTy call_tuple_of (by rfl) T.z_tuple (by decide +kernel) (pa_cons (pv 1) pa_nil)) rfl)
      (pss_cons (ps_fld (pv 0) (pv 2) rfl)
      (pss_cons (ps_fld (pv 0) pe_int rfl)
      (pss_cons (ps_for (passes_of rfl) rfl (pi_tup (pe_fld (pv 0) rfl)) (pg_name (i := 3) sc_Script_init.nd rfl (Or.inl rfl))
      (pss_one (ps_fldaug (pv 0) (C8.pe_c C_growthOf hr (by decide) rfl (pa_cons (pv 3) pa_nil)) in_mul)))
      (pss_one (ps_if (pt_cmpR op_gt (pe_fld (pv 0) rfl) (C8.pe_gc rfl T.g_MOST_GROWTH) (nomark _))
      (pss_one (ps_rx ES.r_TooMany hr (by decide) rfl rfl (takes_of rfl rfl rfl rfl) (pa_cons pe_str (pa_cons (pe_fld (pv 0) rfl) (pa_cons (C8.pe_gc rfl T.g_MOST_GROWTH) pa_nil)))))
      pss_nil))))))), ?_⟩

  obtain ⟨a, dx, L, tv, xs, its, r, rfl, ha, hL, hi, hl, hr0, q1, q2⟩ := h
  have l1 := hi.1
  have cl := AC.i.cl
  refine ⟨_, rfl, _, rfl, L, tv, xs, its, r, rfl, hL, hi, hl, hr0, fun e1 H1 s1 => ?_, fun ne => ?_⟩
  case refine_2 =>
    have e : dueF its r = dueC its r := by
      unfold dueF
      cases h : dueC its r <;> first | rfl | exact absurd h ne
    have z := q2 (by rw [e]; exact ne) H (fun b o _ z => z)
    rw [e] at z
    exact z
  obtain ⟨l6, hno⟩ := due_fine e1
  rcases hL with hL | hL
  · refine ⟨_, rfl, L, xs, rfl, .inl ⟨SqL.of (s1 _ _ hL), fun st hs => ?_⟩⟩
    have nst : st ≠ a := fun z => by rw [z, s1 _ _ ha] at hs; cases hs
    have k2 : ∀ b o, b ≠ a → H b = some o → (upd H1 st (.tup xs)) b = some o := fun b o _ z => same1 hs _ _ _ (s1 _ _ z)
    have ha2 : (upd H1 st (.tup xs)) a = some (.ins CC dx []) := same1 hs _ _ _ (s1 _ _ ha)
    have hst : (upd H1 st (.tup xs)) st = some (.tup xs) := upd_same
    generalize upd H1 st (.tup xs) = H2 at k2 ha2 hst ⊢
    refine ⟨_, rfl, a, CC, dx, [], rfl, ha2, cl, AC.a1, by decide, ?_⟩
    refine ⟨_, rfl, _, rfl, a, CC, dx, _, rfl, upd_same, cl, AC.a2, (by decide : (1 : Nat) < 1000), ?_⟩
    refine ⟨_, rfl, a, CC, dx, _, rfl, upd_same, cl, AC.a3, (by decide : (2 : Nat) < 1000), ?_⟩
    rw [upd_upd, upd_upd]
    have ha3 : (upd H2 a (.ins CC dx (scF st tv 1))) a = some (.ins CC dx (scF st tv 1)) := upd_same
    have k3 : ∀ b o, b ≠ a → H b = some o → (upd H2 a (.ins CC dx (scF st tv 1))) b = some o := fun b o n z => by rw [upd_ne n]; exact k2 b o n z
    have hs3 : (upd H2 a (.ins CC dx (scF st tv 1))) st = some (.tup xs) := by rw [upd_ne nst]; exact hst
    have eH : upd H2 a (.ins CC dx (putF (Str.ofString "growth") (.int 1) (putF (Str.ofString "tongue") tv (putF (Str.ofString "steps") (.ref st) [])))) = upd H2 a (.ins CC dx (scF st tv 1)) := rfl
    rw [eH]
    generalize upd H2 a (.ins CC dx (scF st tv 1)) = H3 at ha3 k3 hs3 ⊢
    refine ⟨_, rfl, a, CC, dx, _, _, rfl, ha3, cl, AC.a1, rfl, st, rfl, ⟨_, SqT.of hs3⟩, ?_⟩
    refine for_tup (K := K) (a := st) (xs := xs) (fun i σ H' => (∀ b o, b ≠ a → H b = some o → H' b = some o) ∧ H' st = some (.tup xs) ∧ H' a = some (.ins CC dx (scF st tv (grA (its.take i)))) ∧ ∃ v3 : Option V, σ = [some (.ref a), some (.ref L), some tv, v3]) ?_ (fun i σ H' _ z => SqT.of z.2.1) ?_ ?_
    · exact ⟨k3, hs3, ha3, none, rfl⟩
    · rintro i x σ H4 hx ⟨k4, hs4, ha4, v3, rfl⟩
      have hil : i < its.length := by rw [← l1]; exact (List.getElem?_eq_some_iff.mp hx).1
      have hq : its[i]? = some its[i] := List.getElem?_eq_getElem hil
      obtain ⟨hv, ok⟩ := hi.2 i x _ hx hq
      have nn := hno its[i] (List.getElem_mem hil)
      generalize its[i] = it at hq hv ok nn
      cases it with
      | no u => cases nn
      | st s =>
        obtain ⟨a', rfl, dy, tw, ea, _⟩ := hv
        have na : a' ≠ a := fun z => by
          rw [z, ha] at ea
          have := (HO.ins.inj (Option.some.inj ea)).2.2
          cases this
        have eg : grA (its.take (i + 1)) = grA (its.take i) * grS s := by
          rw [List.take_add_one, hq]; exact grA_snoc _ _
        have hb : grA (its.take i) ≤ 262144 := Nat.le_trans (grA_le fun x hx => by
          obtain ⟨j, hj, rfl⟩ := List.mem_iff_getElem.mp (List.mem_of_mem_take hx)
          have hj' : j < xs.length := by omega
          exact gr_le (hi.2 j xs[j] its[j] (List.getElem?_eq_getElem hj') (List.getElem?_eq_getElem hj)).2) (Nat.le_trans (Nat.pow_le_pow_right (by decide) (show (its.take i).length ≤ 6 by rw [List.length_take]; omega)) (by decide))
        refine ⟨_, rfl, a, CC, dx, _, _, rfl, ha4, cl, AC.a3, rfl, _, rfl, a', dy, s, tw, rfl, k4 _ _ na ea, ok, _, _, rfl, rfl, .inl ⟨by omega, by omega⟩, dx, _, ha4, (by decide : (3 : Nat) < 1000), ?_⟩
        refine ⟨fun b o n z => by rw [upd_ne n]; exact k4 b o n z, ?_, ?_, _, rfl⟩
        · rw [upd_ne nst]; exact hs4
        · rw [upd_same, eg]
          show some (HO.ins CC dx [("steps", .ref st), ("tongue", tv), ("growth", .int ((grA (its.take i) : Int) * (grS s : Int)))]) = some (HO.ins CC dx [("steps", .ref st), ("tongue", tv), ("growth", .int ((grA (its.take i) * grS s : Nat) : Int))])
          rw [Int.natCast_mul]
    · rintro σ H4 ⟨k4, hs4, ha4, v3, rfl⟩
      rw [List.take_of_length_le (by omega)] at ha4
      refine ⟨_, rfl, a, CC, dx, _, _, rfl, ha4, cl, AC.a3, rfl, _, _, rfl, rfl, _, rfl, ?_⟩
      by_cases c : 36 < grA its
      · have ef : dueF its r = .growth (grA its) := by unfold dueF; rw [e1]; dsimp only; rw [if_pos c]
        rw [ef] at q2
        refine ify (decide_eq_true (by omega)) ⟨_, rfl, a, CC, dx, _, _, rfl, ha4, cl, AC.a3, rfl, rfl, fun d H5 hd h5 s5 => q2 (fun z => nomatch z) H4 k4 d H5 s5 h5⟩
      · have ef : dueF its r = .fine := by unfold dueF; rw [e1]; dsimp only; rw [if_neg c]
        exact ifn (decide_eq_false (by omega)) (q1 ef H4 k4 ⟨dx, st, ha4, hs4⟩)
  · refine ⟨_, rfl, L, xs, rfl, .inr ⟨SqT.of (s1 _ _ hL), ?_⟩⟩
    have nst : L ≠ a := fun z => by rw [z, ha] at hL; cases hL
    have k2 : ∀ b o, b ≠ a → H b = some o → H1 b = some o := fun b o _ z => s1 _ _ z
    have ha2 := s1 _ _ ha
    have hst := s1 _ _ hL
    refine ⟨_, rfl, a, CC, dx, [], rfl, ha2, cl, AC.a1, by decide, ?_⟩
    refine ⟨_, rfl, _, rfl, a, CC, dx, _, rfl, upd_same, cl, AC.a2, (by decide : (1 : Nat) < 1000), ?_⟩
    refine ⟨_, rfl, a, CC, dx, _, rfl, upd_same, cl, AC.a3, (by decide : (2 : Nat) < 1000), ?_⟩
    rw [upd_upd, upd_upd]
    have ha3 : (upd H1 a (.ins CC dx (scF L tv 1))) a = some (.ins CC dx (scF L tv 1)) := upd_same
    have k3 : ∀ b o, b ≠ a → H b = some o → (upd H1 a (.ins CC dx (scF L tv 1))) b = some o := fun b o n z => by rw [upd_ne n]; exact k2 b o n z
    have hs3 : (upd H1 a (.ins CC dx (scF L tv 1))) L = some (.tup xs) := by rw [upd_ne nst]; exact hst
    have eH : upd H1 a (.ins CC dx (putF (Str.ofString "growth") (.int 1) (putF (Str.ofString "tongue") tv (putF (Str.ofString "steps") (.ref L) [])))) = upd H1 a (.ins CC dx (scF L tv 1)) := rfl
    rw [eH]
    generalize upd H1 a (.ins CC dx (scF L tv 1)) = H3 at ha3 k3 hs3 ⊢
    refine ⟨_, rfl, a, CC, dx, _, _, rfl, ha3, cl, AC.a1, rfl, L, rfl, ⟨_, SqT.of hs3⟩, ?_⟩
    refine for_tup (K := K) (a := L) (xs := xs) (fun i σ H' => (∀ b o, b ≠ a → H b = some o → H' b = some o) ∧ H' L = some (.tup xs) ∧ H' a = some (.ins CC dx (scF L tv (grA (its.take i)))) ∧ ∃ v3 : Option V, σ = [some (.ref a), some (.ref L), some tv, v3]) ?_ (fun i σ H' _ z => SqT.of z.2.1) ?_ ?_
    · exact ⟨k3, hs3, ha3, none, rfl⟩
    · rintro i x σ H4 hx ⟨k4, hs4, ha4, v3, rfl⟩
      have hil : i < its.length := by rw [← l1]; exact (List.getElem?_eq_some_iff.mp hx).1
      have hq : its[i]? = some its[i] := List.getElem?_eq_getElem hil
      obtain ⟨hv, ok⟩ := hi.2 i x _ hx hq
      have nn := hno its[i] (List.getElem_mem hil)
      generalize its[i] = it at hq hv ok nn
      cases it with
      | no u => cases nn
      | st s =>
        obtain ⟨a', rfl, dy, tw, ea, _⟩ := hv
        have na : a' ≠ a := fun z => by
          rw [z, ha] at ea
          have := (HO.ins.inj (Option.some.inj ea)).2.2
          cases this
        have eg : grA (its.take (i + 1)) = grA (its.take i) * grS s := by
          rw [List.take_add_one, hq]; exact grA_snoc _ _
        have hb : grA (its.take i) ≤ 262144 := Nat.le_trans (grA_le fun x hx => by
          obtain ⟨j, hj, rfl⟩ := List.mem_iff_getElem.mp (List.mem_of_mem_take hx)
          have hj' : j < xs.length := by omega
          exact gr_le (hi.2 j xs[j] its[j] (List.getElem?_eq_getElem hj') (List.getElem?_eq_getElem hj)).2) (Nat.le_trans (Nat.pow_le_pow_right (by decide) (show (its.take i).length ≤ 6 by rw [List.length_take]; omega)) (by decide))
        refine ⟨_, rfl, a, CC, dx, _, _, rfl, ha4, cl, AC.a3, rfl, _, rfl, a', dy, s, tw, rfl, k4 _ _ na ea, ok, _, _, rfl, rfl, .inl ⟨by omega, by omega⟩, dx, _, ha4, (by decide : (3 : Nat) < 1000), ?_⟩
        refine ⟨fun b o n z => by rw [upd_ne n]; exact k4 b o n z, ?_, ?_, _, rfl⟩
        · rw [upd_ne nst]; exact hs4
        · rw [upd_same, eg]
          show some (HO.ins CC dx [("steps", .ref L), ("tongue", tv), ("growth", .int ((grA (its.take i) : Int) * (grS s : Int)))]) = some (HO.ins CC dx [("steps", .ref L), ("tongue", tv), ("growth", .int ((grA (its.take i) * grS s : Nat) : Int))])
          rw [Int.natCast_mul]
    · rintro σ H4 ⟨k4, hs4, ha4, v3, rfl⟩
      rw [List.take_of_length_le (by omega)] at ha4
      refine ⟨_, rfl, a, CC, dx, _, _, rfl, ha4, cl, AC.a3, rfl, _, _, rfl, rfl, _, rfl, ?_⟩
      by_cases c : 36 < grA its
      · have ef : dueF its r = .growth (grA its) := by unfold dueF; rw [e1]; dsimp only; rw [if_pos c]
        rw [ef] at q2
        refine ify (decide_eq_true (by omega)) ⟨_, rfl, a, CC, dx, _, _, rfl, ha4, cl, AC.a3, rfl, rfl, fun d H5 hd h5 s5 => q2 (fun z => nomatch z) H4 k4 d H5 s5 h5⟩
      · have ef : dueF its r = .fine := by unfold dueF; rw [e1]; dsimp only; rw [if_neg c]
        exact ifn (decide_eq_false (by omega)) (q1 ef H4 k4 ⟨dx, L, ha4, hs4⟩)

end
end Vf

set_option maxRecDepth 100000
set_option maxHeartbeats 4000000
namespace Vf
open PySem PySem.Spec PyProof.Rows L2 SX
section
variable {P : Program} {w : World} {K : PySem.W.Frag} {mg : Str → Option Value} {base : Heap}
theorem signs_v {v : V} (h : v ∈ ([.str "ab", .str "ab", .str "a", .str "abc", .str "a b", .str "x~"] : List V)) : ∃ l, v = .str (S l) ∧ 1 ≤ l.length ∧ l.length ≤ 3 ∧ sgn l := by
  simp only [List.mem_cons, List.not_mem_nil, or_false] at h
  rcases h with rfl | rfl | rfl | rfl | rfl | rfl
  · exact ⟨[97, 98], rfl, by decide, by decide, by unfold sgn; decide⟩
  · exact ⟨[97, 98], rfl, by decide, by decide, by unfold sgn; decide⟩
  · exact ⟨[97], rfl, by decide, by decide, by unfold sgn; decide⟩
  · exact ⟨[97, 98, 99], rfl, by decide, by decide, by unfold sgn; decide⟩
  · exact ⟨[97, 32, 98], rfl, by decide, by decide, by unfold sgn; decide⟩
  · exact ⟨[120, 126], rfl, by decide, by decide, by unfold sgn; decide⟩
theorem ok_signs {f : Addr} {fd : FuncData} (F : C8.Def K mg "_law_signs" s_signs f fd) (b : Binds K fd ["_law_pen_here"] []) (T : Tx K w mg) (C_pick : C8.Cal P w K mg base 2 "_law_pick" sp_pick []) : C8.Cal P w K mg base 3 "_law_signs" sp_signs [] := by
  refine C8.cal0 F b .nil sc_signs (fun vs H Q E h => ?_) (fun cdv A outer s H vs Q E hr h => ?_)
  · obtain ⟨p, c, m, rfl, _⟩ := h; rfl
  have hu := hu_of hr
  refine ⟨_, (pss_one (ps_ret (C8.pe_c C_pick hr (by decide) rfl (pa_cons (pv 0) (pa_cons (pe_lst (pa_cons pe_str (pa_cons pe_str (pa_cons pe_str (pa_cons pe_str (pa_cons pe_str (pa_cons pe_str pa_nil))))))) pa_nil))))), ?_⟩

  obtain ⟨p, c, m, rfl, hp, hm, q⟩ := h
  refine ⟨_, rfl, szB (by decide), fun D hD => ?_⟩
  refine ⟨p, c, m, _, rfl, hp.new hD, by omega, .inr ⟨D, _, rfl, upd_same, by decide, by decide, fun H' v k1 k2 k3 => ?_⟩⟩
  obtain ⟨l, rfl, h1, h2, h3⟩ := signs_v k3
  exact q H' l ((Ks.new1 hD _).trans k1) k2 h1 h2 h3

end
end Vf

set_option maxRecDepth 100000
set_option maxHeartbeats 4000000
namespace Vf
open PySem PySem.Spec PyProof.Rows L2 SX
section
variable {P : Program} {w : World} {K : PySem.W.Frag} {mg : Str → Option Value} {base : Heap}
theorem ok_Step_init {f : Addr} {fd : FuncData} {q : Str} {CR CD CG CL CS CC : Addr} (F : C8.Fun K "__init__" q s_Step_init f fd) (T : Tx K w mg) (A0 : Ca K CR CD CG) (AL : CaL K CL) (AS : CaS K CS) (AC : CaC K CC) (FL : Fgn K CL) (FS : Fgn K CS) (FC : Fgn K CC) (FG : Fgn K CG) : FnOk P w K mg base C8.CX0 1 f fd ["self", "word", "old", "new", "kind", "test", "guard"] (sp_Step_init CS) := by
  refine C8.fn0 F sc_Step_init (fun vs H Q E h => ?_) (fun cdv A outer s H vs Q E hr h => ?_)
  · obtain ⟨a, dx, w, o, n, t, k, rfl, _⟩ := h; rfl
  have hu := hu_of hr
  refine ⟨_, (pss_cons (ps_fld (pv 0) (pv 1) rfl)
      (pss_cons (ps_fld (pv 0) (pv 2) rfl)
      (pss_cons (ps_fld (pv 0) (pv 3) rfl)
      (pss_cons (ps_fld (pv 0) (pv 4) rfl)
      (pss_cons (ps_fld (pv 0) (pv 5) rfl)
      (pss_cons (ps_fld (pv 0) (pv 6) rfl)
      (pss_one (ps_fld (pv 0) (pe_or (pe_cmpR op_notN (pv 4) pe_non (nomark _)) (pe_one (pe_and (pe_cmpR op_notN (pv 6) pe_non (nomark _)) (pe_one (pe_xa (pv 6)))))) rfl)))))))), ?_⟩

  obtain ⟨a, dx, w, o, n, t, k, rfl, ha, q⟩ := h
  have cl := AS.i.cl
  refine ⟨_, rfl, _, rfl, a, CS, dx, [], rfl, ha, cl, AS.a1, by decide, ?_⟩
  refine ⟨_, rfl, _, rfl, a, CS, dx, _, rfl, upd_same, cl, AS.a2, (by decide : (1 : Nat) < 1000), ?_⟩
  refine ⟨_, rfl, _, rfl, a, CS, dx, _, rfl, upd_same, cl, AS.a3, (by decide : (2 : Nat) < 1000), ?_⟩
  refine ⟨_, rfl, _, rfl, a, CS, dx, _, rfl, upd_same, cl, AS.a4, (by decide : (3 : Nat) < 1000), ?_⟩
  refine ⟨_, rfl, _, rfl, a, CS, dx, _, rfl, upd_same, cl, AS.a5, (by decide : (4 : Nat) < 1000), ?_⟩
  refine ⟨_, rfl, _, rfl, a, CS, dx, _, rfl, upd_same, cl, AS.a6, (by decide : (5 : Nat) < 1000), ?_⟩
  rw [upd_upd, upd_upd, upd_upd, upd_upd, upd_upd]
  refine ⟨_, rfl, rfl, _, rfl, ?_⟩
  have cl := AS.i.cl
  cases k with
  | true =>
    refine ify (by rw [decide_eq_false (show ¬ (kV true = V.non) from fun z => nomatch z)]; rfl) ?_
    refine ⟨_, rfl, a, CS, dx, _, rfl, upd_same, cl, AS.a7, (by decide : (6 : Nat) < 1000), ?_⟩
    rw [upd_upd]
    exact q
  | false =>
    refine ifn (by rw [decide_eq_true (show kV false = V.non from rfl)]; rfl) ?_
    refine ⟨_, rfl, rfl, _, rfl, ifF ?_⟩
    refine ⟨_, rfl, a, CS, dx, _, rfl, upd_same, cl, AS.a7, (by decide : (6 : Nat) < 1000), ?_⟩
    rw [upd_upd]
    exact q

end
end Vf

set_option maxRecDepth 100000
set_option maxHeartbeats 4000000
namespace Vf
open PySem PySem.Spec PyProof.Rows L2 SX
section
variable {P : Program} {w : World} {K : PySem.W.Frag} {mg : Str → Option Value} {base : Heap}
theorem tvl_some {H : Hp} {t : Tst} {cv : V} (h : TvL H (some t) cv) : ∃ c, cv = .ref c ∧ CkAt H c t := h
theorem ok_stepMade {f : Addr} {fd : FuncData} {CL CS : Addr} (F : C8.Def K mg "_law_step_made" s_stepMade f fd) (b : Binds K fd ["_law_step_here"] []) (T : Tx K w mg) (C_testMade : C8.Cal P w K mg base 6 "_law_test_made" (sp_testMade CL) []) (C_replaceStep : CalX P w K mg base 5 "replace_step" (sp_replaceStep CL CS)) (C_firstStep : CalX P w K mg base 5 "first_step" (sp_firstStep CL CS)) (C_onceStep : CalX P w K mg base 5 "once_step" (sp_onceStep CL CS)) (C_dropStep : CalX P w K mg base 4 "drop_step" (sp_dropStep CL CS)) (C_keepStep : CalX P w K mg base 4 "keep_step" (sp_keepStep CL CS)) (C_stripStep : CalX P w K mg base 5 "strip_step" (sp_stripStep CL CS)) (C_putStep : CalX P w K mg base 5 "put_step" (sp_putStep CL CS)) : C8.Cal P w K mg base 7 "_law_step_made" (sp_stepMade CL CS) [] := by
  refine C8.cal0 F b .nil sc_stepMade (fun vs H Q E h => ?_) (fun cdv A outer s H vs Q E hr h => ?_)
  · obtain ⟨a, s, rfl, _⟩ := h; rfl
  have hu := hu_of hr
  refine ⟨_, (pss_cons (ps_asg (pv 0) (pg_tup (by rfl) (pgs_cons (pg_name (i := 1) sc_stepMade.nd rfl (Or.inl rfl)) (pgs_cons (pg_name (i := 2) sc_stepMade.nd rfl (Or.inl rfl)) (pgs_cons (pg_name (i := 3) sc_stepMade.nd rfl (Or.inl rfl)) (pgs_cons (pg_name (i := 4) sc_stepMade.nd rfl (Or.inl rfl)) (pgs_cons (pg_name (i := 5) sc_stepMade.nd rfl (Or.inl rfl)) (pgs_cons (pg_name (i := 6) sc_stepMade.nd rfl (Or.inl rfl)) pgs_nil))))))))
      (pss_cons (ps_set (i := 7) sc_stepMade.nd rfl (Or.inl rfl) (pe_ifExp (pt_cmpR op_isN (pv 5) pe_non (nomark _)) pe_non (C8.pe_c C_testMade hr (by decide) rfl (pa_cons (pv 5) pa_nil))))
      (pss_cons (ps_if (pt_cmpR op_eq (pv 1) pe_str (nomark _))
      (pss_one (ps_ret (pe_cx0 C_replaceStep hr (by decide) rfl (pa_cons (pv 2) (pa_cons (pv 3) (pa_cons (pv 4) (pa_cons (pv 7) pa_nil)))))))
      pss_nil)
      (pss_cons (ps_if (pt_cmpR op_in_seq (pv 1) (pe_lst (pa_cons pe_str (pa_cons pe_str pa_nil))) rfl)
      (pss_one (ps_ret (pe_ifExp (pt_cmpR op_eq (pv 1) pe_str (nomark _)) (pe_cx0 C_firstStep hr (by decide) rfl (pa_cons (pv 2) (pa_cons (pv 3) pa_nil))) (pe_cx0 C_onceStep hr (by decide) rfl (pa_cons (pv 2) (pa_cons (pv 3) pa_nil))))))
      pss_nil)
      (pss_cons (ps_if (pt_cmpR op_in_seq (pv 1) (pe_lst (pa_cons pe_str (pa_cons pe_str pa_nil))) rfl)
      (pss_one (ps_ret (pe_ifExp (pt_cmpR op_eq (pv 1) pe_str (nomark _)) (pe_cx0 C_dropStep hr (by decide) rfl (pa_cons (pv 7) pa_nil)) (pe_cx0 C_keepStep hr (by decide) rfl (pa_cons (pv 7) pa_nil)))))
      pss_nil)
      (pss_one (ps_ret (pe_ifExp (pt_cmpR op_eq (pv 1) pe_str (nomark _)) (pe_cx0 C_stripStep hr (by decide) rfl (pa_cons (pv 2) (pa_cons (pv 7) pa_nil))) (pe_cx0 C_putStep hr (by decide) rfl (pa_cons (pv 1) (pa_cons (pv 3) (pa_cons (pv 7) pa_nil)))))))))))), ?_⟩

  obtain ⟨a, s, rfl, ⟨cv, ha, hcv⟩, ok, q⟩ := h
  refine ⟨_, rfl, a, _, rfl, SqT.of ha, rfl, _, _, rfl, _, _, rfl, _, _, rfl, _, _, rfl, _, _, rfl, _, _, rfl, rfl, ?_⟩
  have sm : Same H H := fun _ _ z => z
  cases id ok with
  | @ex w o n k t hw ho hn ht hk hT0 =>
    cases t with
    | none =>
      obtain rfl : cv = .non := hcv
      rcases hw with rfl | rfl | rfl
      · refine ⟨_, rfl, rfl, _, rfl, ify (decide_eq_true rfl) ?_⟩
        refine ⟨_, rfl, rfl, _, rfl, ify (decide_eq_true rfl) ?_⟩
        exact ⟨_, rfl, _, rfl, _, rfl, _, rfl, _, _, _, _, _, rfl, ok, rfl, q.at sm⟩
      · obtain rfl : k = false := by cases k with | false => rfl | true => exact absurd (hk rfl) (by decide +kernel)
        refine ⟨_, rfl, rfl, _, rfl, ify (decide_eq_true rfl) ?_⟩
        refine ⟨_, rfl, rfl, _, rfl, ifn (decide_eq_false (fun z => absurd (V.str.inj z) (by dsimp only; decide +kernel))) ?_⟩
        refine ⟨_, rfl, szB (show 2 ≤ 1000000 by decide), fun L1 hL1 => ⟨L1, _, rfl, .inl (SqL.of upd_same), rfl, by decide, _, rfl, ify (by dsimp only; decide +kernel) ?_⟩⟩
        have sm1 : Same H _ := fun b o z => same1 hL1 (.lst [.str "first", .str "once"]) _ _ (sm _ _ z)
        refine ⟨_, rfl, rfl, _, rfl, ify (decide_eq_true rfl) ?_⟩
        exact ⟨_, rfl, _, rfl, _, _, rfl, ho, hn, q.at sm1⟩
      · obtain rfl : k = false := by cases k with | false => rfl | true => exact absurd (hk rfl) (by decide +kernel)
        refine ⟨_, rfl, rfl, _, rfl, ify (decide_eq_true rfl) ?_⟩
        refine ⟨_, rfl, rfl, _, rfl, ifn (decide_eq_false (fun z => absurd (V.str.inj z) (by dsimp only; decide +kernel))) ?_⟩
        refine ⟨_, rfl, szB (show 2 ≤ 1000000 by decide), fun L1 hL1 => ⟨L1, _, rfl, .inl (SqL.of upd_same), rfl, by decide, _, rfl, ify (by dsimp only; decide +kernel) ?_⟩⟩
        have sm1 : Same H _ := fun b o z => same1 hL1 (.lst [.str "first", .str "once"]) _ _ (sm _ _ z)
        refine ⟨_, rfl, rfl, _, rfl, ifn (decide_eq_false (fun z => absurd (V.str.inj z) (by dsimp only; decide +kernel))) ?_⟩
        exact ⟨_, rfl, _, rfl, _, _, rfl, ho, hn, q.at sm1⟩
    | some t =>
      have hT : OkT t := hT0 t rfl
      obtain ⟨c, rfl, hc⟩ := tvl_some hcv
      obtain ⟨hw1, hk1, h1, h2⟩ := ht (fun z => nomatch z)
      subst hw1
      refine ⟨_, rfl, rfl, _, rfl, ifn (decide_eq_false (fun z => nomatch z)) ⟨_, rfl, c, _, rfl, hc, hT, fun H1 x sm tv => ?_⟩⟩
      refine ⟨_, rfl, rfl, _, rfl, ify (decide_eq_true rfl) ?_⟩
      exact ⟨_, rfl, _, rfl, _, rfl, _, rfl, _, _, _, _, _, rfl, ok, ⟨x, rfl, tv⟩, q.at sm⟩
  | @dk w t hw hT =>
    obtain ⟨c, rfl, hc⟩ := tvl_some hcv
    rcases hw with rfl | rfl
    · refine ⟨_, rfl, rfl, _, rfl, ifn (decide_eq_false (fun z => nomatch z)) ⟨_, rfl, c, _, rfl, hc, hT, fun H1 x sm tv => ?_⟩⟩
      refine ⟨_, rfl, rfl, _, rfl, ifn (decide_eq_false (fun z => absurd (V.str.inj z) (by dsimp only; decide +kernel))) ?_⟩
      refine ⟨_, rfl, szB (show 2 ≤ 1000000 by decide), fun L1 hL1 => ⟨L1, _, rfl, .inl (SqL.of upd_same), rfl, by decide, _, rfl, ifn (by dsimp only; decide +kernel) ?_⟩⟩
      have sm1 : Same H _ := fun b o z => same1 hL1 (.lst [.str "first", .str "once"]) _ _ (sm _ _ z)
      have tv1 := tv.sm (same1 hL1 (.lst [.str "first", .str "once"]))
      refine ⟨_, rfl, szB (show 2 ≤ 1000000 by decide), fun L2 hL2 => ⟨L2, _, rfl, .inl (SqL.of upd_same), rfl, by decide, _, rfl, ify (by dsimp only; decide +kernel) ?_⟩⟩
      have sm2 : Same H _ := fun b o z => same1 hL2 (.lst [.str "drop", .str "keep"]) _ _ (sm1 _ _ z)
      have tv2 := tv1.sm (same1 hL2 (.lst [.str "drop", .str "keep"]))
      refine ⟨_, rfl, rfl, _, rfl, ify (decide_eq_true rfl) ?_⟩
      exact ⟨_, rfl, _, _, rfl, tv2, q.at sm2⟩
    · refine ⟨_, rfl, rfl, _, rfl, ifn (decide_eq_false (fun z => nomatch z)) ⟨_, rfl, c, _, rfl, hc, hT, fun H1 x sm tv => ?_⟩⟩
      refine ⟨_, rfl, rfl, _, rfl, ifn (decide_eq_false (fun z => absurd (V.str.inj z) (by dsimp only; decide +kernel))) ?_⟩
      refine ⟨_, rfl, szB (show 2 ≤ 1000000 by decide), fun L1 hL1 => ⟨L1, _, rfl, .inl (SqL.of upd_same), rfl, by decide, _, rfl, ifn (by dsimp only; decide +kernel) ?_⟩⟩
      have sm1 : Same H _ := fun b o z => same1 hL1 (.lst [.str "first", .str "once"]) _ _ (sm _ _ z)
      have tv1 := tv.sm (same1 hL1 (.lst [.str "first", .str "once"]))
      refine ⟨_, rfl, szB (show 2 ≤ 1000000 by decide), fun L2 hL2 => ⟨L2, _, rfl, .inl (SqL.of upd_same), rfl, by decide, _, rfl, ify (by dsimp only; decide +kernel) ?_⟩⟩
      have sm2 : Same H _ := fun b o z => same1 hL2 (.lst [.str "drop", .str "keep"]) _ _ (sm1 _ _ z)
      have tv2 := tv1.sm (same1 hL2 (.lst [.str "drop", .str "keep"]))
      refine ⟨_, rfl, rfl, _, rfl, ifn (decide_eq_false (fun z => absurd (V.str.inj z) (by dsimp only; decide +kernel))) ?_⟩
      exact ⟨_, rfl, _, _, rfl, tv2, q.at sm2⟩
  | @pt w n t hw hn h10 h1 hT =>
    obtain ⟨c, rfl, hc⟩ := tvl_some hcv
    rcases hw with rfl | rfl | rfl | rfl
    · refine ⟨_, rfl, rfl, _, rfl, ifn (decide_eq_false (fun z => nomatch z)) ⟨_, rfl, c, _, rfl, hc, hT, fun H1 x sm tv => ?_⟩⟩
      refine ⟨_, rfl, rfl, _, rfl, ifn (decide_eq_false (fun z => absurd (V.str.inj z) (by dsimp only; decide +kernel))) ?_⟩
      refine ⟨_, rfl, szB (show 2 ≤ 1000000 by decide), fun L1 hL1 => ⟨L1, _, rfl, .inl (SqL.of upd_same), rfl, by decide, _, rfl, ifn (by dsimp only; decide +kernel) ?_⟩⟩
      have sm1 : Same H _ := fun b o z => same1 hL1 (.lst [.str "first", .str "once"]) _ _ (sm _ _ z)
      have tv1 := tv.sm (same1 hL1 (.lst [.str "first", .str "once"]))
      refine ⟨_, rfl, szB (show 2 ≤ 1000000 by decide), fun L2 hL2 => ⟨L2, _, rfl, .inl (SqL.of upd_same), rfl, by decide, _, rfl, ifn (by dsimp only; decide +kernel) ?_⟩⟩
      have sm2 : Same H _ := fun b o z => same1 hL2 (.lst [.str "drop", .str "keep"]) _ _ (sm1 _ _ z)
      have tv2 := tv1.sm (same1 hL2 (.lst [.str "drop", .str "keep"]))
      refine ⟨_, rfl, rfl, _, rfl, ifn (decide_eq_false (fun z => absurd (V.str.inj z) (by dsimp only; decide +kernel))) ?_⟩
      exact ⟨_, rfl, _, rfl, _, rfl, _, _, _, _, rfl, ok, tv2, q.at sm2⟩
    · refine ⟨_, rfl, rfl, _, rfl, ifn (decide_eq_false (fun z => nomatch z)) ⟨_, rfl, c, _, rfl, hc, hT, fun H1 x sm tv => ?_⟩⟩
      refine ⟨_, rfl, rfl, _, rfl, ifn (decide_eq_false (fun z => absurd (V.str.inj z) (by dsimp only; decide +kernel))) ?_⟩
      refine ⟨_, rfl, szB (show 2 ≤ 1000000 by decide), fun L1 hL1 => ⟨L1, _, rfl, .inl (SqL.of upd_same), rfl, by decide, _, rfl, ifn (by dsimp only; decide +kernel) ?_⟩⟩
      have sm1 : Same H _ := fun b o z => same1 hL1 (.lst [.str "first", .str "once"]) _ _ (sm _ _ z)
      have tv1 := tv.sm (same1 hL1 (.lst [.str "first", .str "once"]))
      refine ⟨_, rfl, szB (show 2 ≤ 1000000 by decide), fun L2 hL2 => ⟨L2, _, rfl, .inl (SqL.of upd_same), rfl, by decide, _, rfl, ifn (by dsimp only; decide +kernel) ?_⟩⟩
      have sm2 : Same H _ := fun b o z => same1 hL2 (.lst [.str "drop", .str "keep"]) _ _ (sm1 _ _ z)
      have tv2 := tv1.sm (same1 hL2 (.lst [.str "drop", .str "keep"]))
      refine ⟨_, rfl, rfl, _, rfl, ifn (decide_eq_false (fun z => absurd (V.str.inj z) (by dsimp only; decide +kernel))) ?_⟩
      exact ⟨_, rfl, _, rfl, _, rfl, _, _, _, _, rfl, ok, tv2, q.at sm2⟩
    · refine ⟨_, rfl, rfl, _, rfl, ifn (decide_eq_false (fun z => nomatch z)) ⟨_, rfl, c, _, rfl, hc, hT, fun H1 x sm tv => ?_⟩⟩
      refine ⟨_, rfl, rfl, _, rfl, ifn (decide_eq_false (fun z => absurd (V.str.inj z) (by dsimp only; decide +kernel))) ?_⟩
      refine ⟨_, rfl, szB (show 2 ≤ 1000000 by decide), fun L1 hL1 => ⟨L1, _, rfl, .inl (SqL.of upd_same), rfl, by decide, _, rfl, ifn (by dsimp only; decide +kernel) ?_⟩⟩
      have sm1 : Same H _ := fun b o z => same1 hL1 (.lst [.str "first", .str "once"]) _ _ (sm _ _ z)
      have tv1 := tv.sm (same1 hL1 (.lst [.str "first", .str "once"]))
      refine ⟨_, rfl, szB (show 2 ≤ 1000000 by decide), fun L2 hL2 => ⟨L2, _, rfl, .inl (SqL.of upd_same), rfl, by decide, _, rfl, ifn (by dsimp only; decide +kernel) ?_⟩⟩
      have sm2 : Same H _ := fun b o z => same1 hL2 (.lst [.str "drop", .str "keep"]) _ _ (sm1 _ _ z)
      have tv2 := tv1.sm (same1 hL2 (.lst [.str "drop", .str "keep"]))
      refine ⟨_, rfl, rfl, _, rfl, ifn (decide_eq_false (fun z => absurd (V.str.inj z) (by dsimp only; decide +kernel))) ?_⟩
      exact ⟨_, rfl, _, rfl, _, rfl, _, _, _, _, rfl, ok, tv2, q.at sm2⟩
    · refine ⟨_, rfl, rfl, _, rfl, ifn (decide_eq_false (fun z => nomatch z)) ⟨_, rfl, c, _, rfl, hc, hT, fun H1 x sm tv => ?_⟩⟩
      refine ⟨_, rfl, rfl, _, rfl, ifn (decide_eq_false (fun z => absurd (V.str.inj z) (by dsimp only; decide +kernel))) ?_⟩
      refine ⟨_, rfl, szB (show 2 ≤ 1000000 by decide), fun L1 hL1 => ⟨L1, _, rfl, .inl (SqL.of upd_same), rfl, by decide, _, rfl, ifn (by dsimp only; decide +kernel) ?_⟩⟩
      have sm1 : Same H _ := fun b o z => same1 hL1 (.lst [.str "first", .str "once"]) _ _ (sm _ _ z)
      have tv1 := tv.sm (same1 hL1 (.lst [.str "first", .str "once"]))
      refine ⟨_, rfl, szB (show 2 ≤ 1000000 by decide), fun L2 hL2 => ⟨L2, _, rfl, .inl (SqL.of upd_same), rfl, by decide, _, rfl, ifn (by dsimp only; decide +kernel) ?_⟩⟩
      have sm2 : Same H _ := fun b o z => same1 hL2 (.lst [.str "drop", .str "keep"]) _ _ (sm1 _ _ z)
      have tv2 := tv1.sm (same1 hL2 (.lst [.str "drop", .str "keep"]))
      refine ⟨_, rfl, rfl, _, rfl, ifn (decide_eq_false (fun z => absurd (V.str.inj z) (by dsimp only; decide +kernel))) ?_⟩
      exact ⟨_, rfl, _, rfl, _, rfl, _, _, _, _, rfl, ok, tv2, q.at sm2⟩
  | @sp o t ho h10 hT =>
    obtain ⟨c, rfl, hc⟩ := tvl_some hcv
    refine ⟨_, rfl, rfl, _, rfl, ifn (decide_eq_false (fun z => nomatch z)) ⟨_, rfl, c, _, rfl, hc, hT, fun H1 x sm tv => ?_⟩⟩
    refine ⟨_, rfl, rfl, _, rfl, ifn (decide_eq_false (fun z => absurd (V.str.inj z) (by dsimp only; decide +kernel))) ?_⟩
    refine ⟨_, rfl, szB (show 2 ≤ 1000000 by decide), fun L1 hL1 => ⟨L1, _, rfl, .inl (SqL.of upd_same), rfl, by decide, _, rfl, ifn (by dsimp only; decide +kernel) ?_⟩⟩
    have sm1 : Same H _ := fun b o z => same1 hL1 (.lst [.str "first", .str "once"]) _ _ (sm _ _ z)
    have tv1 := tv.sm (same1 hL1 (.lst [.str "first", .str "once"]))
    refine ⟨_, rfl, szB (show 2 ≤ 1000000 by decide), fun L2 hL2 => ⟨L2, _, rfl, .inl (SqL.of upd_same), rfl, by decide, _, rfl, ifn (by dsimp only; decide +kernel) ?_⟩⟩
    have sm2 : Same H _ := fun b o z => same1 hL2 (.lst [.str "drop", .str "keep"]) _ _ (sm1 _ _ z)
    have tv2 := tv1.sm (same1 hL2 (.lst [.str "drop", .str "keep"]))
    refine ⟨_, rfl, rfl, _, rfl, ify (decide_eq_true rfl) ?_⟩
    exact ⟨_, rfl, _, rfl, _, _, _, rfl, ho, h10, tv2, q.at sm2⟩

end
end Vf

set_option maxRecDepth 100000
set_option maxHeartbeats 4000000
namespace Vf
open PySem PySem.Spec PyProof.Rows L2 SX
section
variable {P : Program} {w : World} {K : PySem.W.Frag} {mg : Str → Option Value} {base : Heap}
theorem ok_stripStep {f : Addr} {fd : FuncData} {CL CS CT CBadWord CBadNumber CBadStep CTooMany CNoTongue CW : Addr} (F : C8.Def K mg "strip_step" s_stripStep f fd) (b : Binds K fd ["old", "test"] []) (T : Tx K w mg) (ES : Es P w K mg base CT CBadWord CBadNumber CBadStep CTooMany CNoTongue CW) (MN_Step_old_test : MakN P w K mg base 1 "Step" CS (sp_Step_init CS) 1 ["old", "test"] gv_old_test) (C_isLineWord : C8.Cal P w K mg base 3 "is_line_word" (sp_isLineWord K) []) (C_checkTest : CalX P w K mg base 3 "check_test" (sp_checkTest CL)) : CalX P w K mg base 5 "strip_step" (sp_stripStep CL CS) := by
  refine calX F b sc_stripStep (fun vs H Q E h => ?_) (fun cdv A outer s H vs Q E hr h => ?_)
  · obtain ⟨o, c, t, rfl, _⟩ := h; rfl
  have hu := hu_of hr
  refine ⟨_, (C8.pss_cut (ps_if (PW.pt (pw_or (pt_not (pt_val (C8.pe_c C_isLineWord hr (by decide) rfl (pa_cons (pv 0) pa_nil)))) (pw_or1 (pt_cmpR op_eq (pv 0) pe_str (nomark _)))))
      (pss_one (ps_rx ES.r_BadWord hr (by decide) rfl rfl (takes_of rfl rfl rfl rfl) (pa_cons pe_str pa_nil)))
      pss_nil)
      (pss_cons (ps_expr (pe_cx C_checkTest hr (by decide) rfl (takes_of rfl rfl rfl rfl) (pa_cons (pv 1) pa_nil)))
      (pss_one (ps_ret (pe_mkN MN_Step_old_test hr (by decide) rfl (pa_cons pe_str pa_nil) (pk_cons (pv 0) (pk_cons (pv 1) pk_nil))))))), ?_⟩

  obtain ⟨o, c, t, rfl, ho, h10, ht, q⟩ := h
  have l6 := ho.1.2
  have l1 := ho.2
  refine ⟨fun σ' H' => Same H H' ∧ σ' = [some (.str (S o)), some (.ref c)], ?_, ?_⟩
  · refine ⟨_, rfl, _, rfl, .inl ⟨o, rfl, by omega, fun H1 s1 => ⟨_, rfl, ?_⟩⟩⟩
    rw [lw_ok ho.1 h10]
    refine ifF ⟨_, rfl, rfl, _, rfl, ?_⟩
    rw [S_nil]
    refine ifn (decide_eq_false fun z => by rw [z] at l1; exact absurd l1 (by decide)) ⟨s1, rfl⟩
  rintro σ' H1 ⟨s1, rfl⟩
  refine ⟨_, rfl, c, t, rfl, ht.sm s1, ?_⟩
  refine ⟨_, rfl, _, rfl, rfl, rfl, fun x dx hx hdx ne => ⟨x, dx, "strip", .str (S o), .non, .ref c, false, rfl, upd_same, rfl, ?_⟩⟩
  exact st_made (s := ⟨"strip", some o, none, false, some t⟩) hx hdx ne ⟨c, rfl, ht.sm s1⟩ (q.at s1)

end
end Vf

set_option maxRecDepth 100000
set_option maxHeartbeats 4000000
namespace Vf
open PySem PySem.Spec PyProof.Rows L2 SX
section
variable {P : Program} {w : World} {K : PySem.W.Frag} {mg : Str → Option Value} {base : Heap}
theorem ok_testMadeP {f : Addr} {fd : FuncData} (F : C8.Def K mg "_law_test_made" s_testMade f fd) (b : Binds K fd ["_law_check"] []) (T : Tx K w mg) {CBadWord CBadNumber CL : Addr} (C_plainTest : CalX P w K mg base 4 "plain_test" (sp_plainTest K CL CBadWord CBadNumber)) (C_otherTest : CalX P w K mg base 3 "other_test" (sp_otherTest K CL CBadWord CBadNumber)) :
    C8.Cal P w K mg base 5 "_law_test_made" (sp_testMadeP CL) [] := by
  refine C8.cal0 F b .nil sc_testMade (fun vs H Q E h => ?_) (fun cdv A outer s H vs Q E hr h => ?_)
  · obtain ⟨a, p, n, rfl, _⟩ := h; rfl
  have hu := hu_of hr
  refine ⟨_, (pss_cons (ps_asg (pv 0) (pg_tup (by rfl) (pgs_cons (pg_name (i := 1) sc_testMade.nd rfl (Or.inl rfl)) (pgs_cons (pg_name (i := 2) sc_testMade.nd rfl (Or.inl rfl)) (pgs_cons (pg_name (i := 3) sc_testMade.nd rfl (Or.inl rfl)) (pgs_cons (pg_name (i := 4) sc_testMade.nd rfl (Or.inl rfl)) (pgs_cons (pg_name (i := 5) sc_testMade.nd rfl (Or.inl rfl)) pgs_nil)))))))
      (C8.pss_cut (ps_if (pt_cmpR op_eq (pv 1) pe_str (nomark _))
      (pss_one ps_never)
      (pss_one (ps_set (i := 6) sc_testMade.nd rfl (Or.inl rfl) (pe_cx0 C_plainTest hr (by decide) rfl (pa_cons (pv 1) (pa_cons (pv 2) pa_nil))))))
      (pss_one (ps_ret (pe_ifExp (pt_val (pv 5)) (pe_cx0 C_otherTest hr (by decide) rfl (pa_cons (pv 6) pa_nil)) (pv 6)))))), ?_⟩
  obtain ⟨a, p, n, rfl, ck, op, q⟩ := h
  refine ⟨_, rfl, a, _, rfl, SqT.of ck, rfl, _, _, rfl, _, _, rfl, _, _, rfl, _, _, rfl, _, _, rfl, rfl, ?_⟩
  refine ⟨fun σ' H' => ∃ o, σ' = [some (.ref a), some (.str p.1), some p.2, some .non, some .non, some (.bl n), some (.ref o)] ∧ PlAt CL H' o p false ∧ Same H H', ?_, ?_⟩
  · refine ⟨_, rfl, rfl, _, rfl, ifn (decide_eq_false fun z => op.nf (V.str.inj z)) ?_⟩
    exact ⟨_, rfl, _, rfl, .str p.1, p.2, none, rfl, .ok op, fun _ H' o k hk sm hpl => ⟨o, rfl, by cases hk; exact hpl, sm⟩, fun e h => nomatch h⟩
  rintro σ' H1 ⟨o, rfl, ⟨dx, ho⟩, sm⟩
  refine ⟨_, rfl, n, rfl, ?_⟩
  cases n with
  | true => exact ifT ⟨_, rfl, .ref o, rfl, .inr ⟨o, dx, p, _, _, rfl, ho, fun H' c dz s2 hc => q H' c (Same.trans sm s2) ⟨dz, hc⟩⟩⟩
  | false => exact ifF ⟨_, rfl, q H1 o sm ⟨dx, ho⟩⟩
theorem tst_sg (t : Tst) : t.sg t.neg = t := by cases t <;> rfl
theorem ok_testMade {f : Addr} {fd : FuncData} (F : C8.Def K mg "_law_test_made" s_testMade f fd) (b : Binds K fd ["_law_check"] []) (T : Tx K w mg) {CBadWord CBadNumber CL : Addr} (C_rangeTest : CalX P w K mg base 3 "range_test" (sp_rangeTest K CL CBadWord CBadNumber)) (C_testMade : C8.Cal P w K mg base 5 "_law_test_made" (sp_testMadeP CL) []) (C_plainTest : CalX P w K mg base 4 "plain_test" (sp_plainTest K CL CBadWord CBadNumber)) (C_otherTest : CalX P w K mg base 3 "other_test" (sp_otherTest K CL CBadWord CBadNumber)) :
    C8.Cal P w K mg base 6 "_law_test_made" (sp_testMade CL) [] := by
  refine C8.cal0 F b .nil sc_testMade (fun vs H Q E h => ?_) (fun cdv A outer s H vs Q E hr h => ?_)
  · obtain ⟨a, t, rfl, _⟩ := h; rfl
  have hu := hu_of hr
  refine ⟨_, (pss_cons (ps_asg (pv 0) (pg_tup (by rfl) (pgs_cons (pg_name (i := 1) sc_testMade.nd rfl (Or.inl rfl)) (pgs_cons (pg_name (i := 2) sc_testMade.nd rfl (Or.inl rfl)) (pgs_cons (pg_name (i := 3) sc_testMade.nd rfl (Or.inl rfl)) (pgs_cons (pg_name (i := 4) sc_testMade.nd rfl (Or.inl rfl)) (pgs_cons (pg_name (i := 5) sc_testMade.nd rfl (Or.inl rfl)) pgs_nil)))))))
      (C8.pss_cut (ps_if (pt_cmpR op_eq (pv 1) pe_str (nomark _))
      (pss_one (ps_set (i := 6) sc_testMade.nd rfl (Or.inl rfl) (pe_cx0 C_rangeTest hr (by decide) rfl (pa_cons (C8.pe_c C_testMade hr (by decide) rfl (pa_cons (pv 3) pa_nil)) (pa_cons (C8.pe_c C_testMade hr (by decide) rfl (pa_cons (pv 4) pa_nil)) pa_nil)))))
      (pss_one (ps_set (i := 6) sc_testMade.nd rfl (Or.inl rfl) (pe_cx0 C_plainTest hr (by decide) rfl (pa_cons (pv 1) (pa_cons (pv 2) pa_nil))))))
      (pss_one (ps_ret (pe_ifExp (pt_val (pv 5)) (pe_cx0 C_otherTest hr (by decide) rfl (pa_cons (pv 6) pa_nil)) (pv 6)))))), ?_⟩
  obtain ⟨a, t, rfl, ck, ot, q⟩ := h
  obtain ⟨z, x, y, hz, _⟩ := ck_l ck
  refine ⟨_, rfl, a, _, rfl, SqT.of hz, rfl, _, _, rfl, _, _, rfl, _, _, rfl, _, _, rfl, _, _, rfl, rfl, ?_⟩
  refine ⟨fun σ' H' => ∃ (o dx : Addr) (r : Pt) (u v : V), σ' = [some (.ref a), some (.str z.1), some z.2, some x, some y, some (.bl t.neg), some (.ref o)] ∧ H' o = some (.ins CL dx (tF r u v false)) ∧ Same H H' ∧ ∀ (b : Bool) (H'' : Hp) (c dz : Addr), Same H' H'' → H'' c = some (.ins CL dz (tF r u v b)) → TsAt CL H'' c (t.sg b), ?_, ?_⟩
  · match t, ck, ot, hz with
    | .pl p n, ck, op, hz =>
      have e : cT p .non .non n = cT z x y n := by
        have := ck.symm.trans hz
        exact HO.tup.inj (Option.some.inj this)
      have e1 : V.str p.1 = V.str z.1 := (List.cons.inj e).1
      have e2 : p.2 = z.2 := (List.cons.inj (List.cons.inj e).2).1
      have ez : z = p := Prod.ext (V.str.inj e1).symm e2.symm
      subst ez
      refine ⟨_, rfl, rfl, _, rfl, ifn (decide_eq_false fun w => op.nf (V.str.inj w)) ?_⟩
      exact ⟨_, rfl, _, rfl, .str z.1, z.2, none, rfl, .ok op, fun _ H' o k hk sm ⟨dx, ho⟩ => ⟨o, dx, z, .non, .non, rfl, by cases hk; exact ho, sm, fun b H'' c dz _ hc => ⟨dz, hc⟩⟩, fun e h => nomatch h⟩
    | .rg p p' n, ⟨b, c, h0, h1, h2⟩, ot, hz =>
      have e : cT ("from", .non) (.ref b) (.ref c) n = cT z x y n := HO.tup.inj (Option.some.inj (h0.symm.trans hz))
      have e1 : V.str "from" = V.str z.1 := (List.cons.inj e).1
      have e3 : V.ref b = x := (List.cons.inj (List.cons.inj (List.cons.inj e).2).2).1
      have e4 : V.ref c = y := (List.cons.inj (List.cons.inj (List.cons.inj (List.cons.inj e).2).2).2).1
      subst e3 e4
      have ez : z.1 = "from" := (V.str.inj e1).symm
      refine ⟨_, rfl, rfl, _, rfl, ify (decide_eq_true (by rw [ez])) ?_⟩
      refine ⟨_, rfl, b, p, false, rfl, h1, ot.1, fun H1 o1 s1 t1 => ?_⟩
      refine ⟨_, rfl, c, p', false, rfl, s1 _ _ h2, ot.2, fun H2 o2 s2 t2 => ?_⟩
      have t1' := PlAt.sm t1 s2
      obtain ⟨d1, g1⟩ := id t1'
      obtain ⟨d2, g2⟩ := id t2
      refine ⟨.ref o1, .ref o2, rfl, .inr ⟨o1, d1, p, _, _, rfl, g1, ot.1.nf, .inr ⟨o2, d2, p', _, _, rfl, g2, ot.2.nf, fun H3 o dz s3 ho => ?_⟩⟩⟩
      exact ⟨o, dz, ("from", .non), .ref o1, .ref o2, rfl, ho, Same.trans s1 (Same.trans s2 s3), fun b' H'' c' dz' sm hc => ⟨dz', o1, o2, hc, PlAt.sm (PlAt.sm t1' s3) sm, PlAt.sm (PlAt.sm t2 s3) sm⟩⟩
  rintro σ' H1 ⟨o, dx, r, u, v, rfl, ho, sm, back⟩
  refine ⟨_, rfl, t.neg, rfl, ?_⟩
  cases hn : t.neg with
  | true =>
    refine ifT ⟨_, rfl, .ref o, rfl, .inr ⟨o, dx, r, u, v, rfl, ho, fun H' c dz s2 hc => q H' c (Same.trans sm s2) ?_⟩⟩
    have := back true H' c dz s2 hc
    rw [← hn, tst_sg] at this
    exact this
  | false =>
    refine ifF ⟨_, rfl, q H1 o sm ?_⟩
    have := back false H1 o dx (fun _ _ z => z) ho
    rw [← hn, tst_sg] at this
    exact this

end
end Vf

set_option maxRecDepth 100000
set_option maxHeartbeats 4000000
namespace Vf
open PySem PySem.Spec PyProof.Rows L2 SX
section
variable {P : Program} {w : World} {K : PySem.W.Frag} {mg : Str → Option Value} {base : Heap}
theorem ok_Tongue_eq {CR CD CG : Addr} {f : Addr} {fd : FuncData} {q : Str} (gc : mg "Tongue" = some (.ref CG)) (F : C8.Fun K "__eq__" q s_Tongue_eq f fd) (T : Tx K w mg) (A0 : Ca K CR CD CG) : FnOk P w K mg base C8.CX0 1 f fd ["self", "other"] (spEqI (EqG CG)) := by
  refine C8.fn0 F sc_Tongue_eq (fun vs H Q E h => ?_) (fun cdv A outer s H vs Q E hr h => ?_)
  · obtain ⟨a, b, r, rfl, _⟩ := h; rfl
  have hu := hu_of hr
  refine ⟨_, (pss_one (ps_ret (pe_and (pe_callB (C8.call_isC A0.iG) (by rfl) T.z_isinstance (by decide +kernel) (pa_cons (pv 1) (pa_cons (pe_cls (gc) rfl) pa_nil))) (pe_one (pe_cmpR op_eq (pe_fld (pv 0) rfl) (pe_fld (pv 1) rfl) (nomark _)))))), ?_⟩
  obtain ⟨a, b, r, rfl, ⟨t, u, ⟨dx, rt, wi, rd, h1, h2⟩, ⟨dy, rt', wi', rd', h3, h4⟩, rfl⟩, k⟩ := h
  have k' := k H (same_refl H)
  refine ⟨_, rfl, b, dy, _, rfl, h3, true, rfl, ifT ?_⟩
  refine ⟨_, rfl, a, CG, dx, _, _, rfl, h1, A0.iG.cl, A0.g1, rfl, _, rfl, b, CG, dy, _, _, rfl, h3, A0.iG.cl, A0.g1, rfl, rfl, ?_⟩
  rw [dS]
  exact k'
theorem ok_Tongue_eqF {CR CD CG : Addr} {f : Addr} {fd : FuncData} {q : Str} (gc : mg "Tongue" = some (.ref CG)) (F : C8.Fun K "__eq__" q s_Tongue_eq f fd) (T : Tx K w mg) (A0 : Ca K CR CD CG) : FnOk P w K mg base C8.CX0 1 f fd ["self", "other"] (spEqF K CG) := by
  refine C8.fn0 F sc_Tongue_eq (fun vs H Q E h => ?_) (fun cdv A outer s H vs Q E hr h => ?_)
  · obtain ⟨a, y, dx, fs, t, rfl, _⟩ := h; rfl
  have hu := hu_of hr
  refine ⟨_, (pss_one (ps_ret (pe_and (pe_callB call_isi (by rfl) T.z_isinstance (by decide +kernel) (pa_cons (pv 1) (pa_cons (pe_cls (gc) rfl) pa_nil))) (pe_one (pe_cmpR op_eq (pe_fld (pv 0) rfl) (pe_fld (pv 1) rfl) (nomark _)))))), ?_⟩
  obtain ⟨a, y, dx, fs, t, rfl, ha, ty, kt, q⟩ := h
  exact ⟨_, rfl, _, _, t, _, false, rfl, .own CG, ty, kt, _, rfl, ifF q⟩

end
end Vf

set_option maxRecDepth 100000
set_option maxHeartbeats 4000000
namespace Vf
open PySem PySem.Spec PyProof.Rows L2 SX
section
variable {P : Program} {w : World} {K : PySem.W.Frag} {mg : Str → Option Value} {base : Heap}
theorem ok_Tongue_init {f : Addr} {fd : FuncData} {q : Str} {CR CD CG CT P0 : Addr} (M : Mk K CG f) (gc : mg "Tongue" = some (.ref CG)) (F : C8.Fun K "__init__" q s_Tongue_init f fd) (b : Binds K fd ["self", "text"] []) (T : Tx K w mg) (M_Reader : C8.Mak P w K mg base 5 "Reader" CD (sp_Reader_init K CR CD P0) []) (A0 : Ca K CR CD CG) (C_readRules : CalX P w K mg base 4 "read_rules" (sp_readRules CR CT)) (C_ruleWeight : C8.Cal P w K mg base 1 "rule_weight" (sp_ruleWeight CR) []) : MakX P w K mg base 7 "Tongue" CG (sp_Tongue_init CG CT P0) := by
  refine makX M gc F b sc_Tongue_init (fun vs H Q E h => ?_) (fun cdv A outer s H vs Q E hr h => ?_)
  · obtain ⟨a, dx, t, rfl, _⟩ := h; rfl
  have hu := hu_of hr
  refine ⟨_, (pss_cons (ps_set (i := 2) sc_Tongue_init.nd rfl (Or.inl rfl) (pe_cx C_readRules hr (by decide) rfl (takes_of rfl rfl rfl rfl) (pa_cons (pv 1) pa_nil)))
      (pss_cons (ps_fld (pv 0) (pv 1) rfl)
      (C8.pss_cut (ps_fld (pv 0) (pe_ifExp (pt_truth (pv 1) (by intro _; rfl)) (pe_callTy call_tuple_of (by rfl) T.z_tuple (by decide +kernel) (pa_cons (pe_split (pv 1) pe_str) pa_nil)) (pe_tup pa_nil)) rfl)
      (pss_cons (ps_fld (pv 0) (pe_op op_add pe_int (pe_callB (cr_sum rfl) (by rfl) T.z_sum (by decide +kernel) (pa_cons (pe_lc (own := [("rule", 3)]) (g := (gName 3)) (tt := tYes) rfl sc_Tongue_init.nd (pi_tup (pv 2)) (blkOk_by (N := N_Tongue_init) (sc := C8.fnScope s_Tongue_init) (by decide +kernel)) (fun _ _ _ _ _ => pg_name (i := 3) sc_Tongue_init.nd rfl (Or.inl rfl)) (fun _ _ _ _ _ => pts_nil) (fun _ _ _ _ _ => (C8.pe_c C_ruleWeight hr (by decide) rfl (pa_cons (pv 3) pa_nil)))) pa_nil))) rfl)
      (pss_one (ps_fld (pv 0) (C8.pe_mk M_Reader hr (by decide) rfl (pa_cons (pv 2) pa_nil)) rfl)))))), ?_⟩

  obtain ⟨a, dx, t, rfl, ha, ht, lo, tb, qo, qe⟩ := h
  have clG := A0.iG.cl
  refine ⟨_, rfl, t, rfl, ht, lo, fun e0 H1 b rs s1 hb hz hru => ?_, fun p ep d H1 s1 hd => qe p ep d H1 s1 hd⟩
  have ha1 := s1 _ _ ha
  have tb1 := tb.ext s1
  have neR : ∀ {a' : Addr} {fs : List (Str × V)} {dx' C : Addr}, H1 a' = some (.ins C dx' fs) → fs ≠ [] → a' ≠ a := fun h n z => by
    rw [z, ha1] at h
    cases h
    exact n rfl
  refine ⟨_, rfl, _, rfl, a, CG, dx, _, rfl, ha1, clG, A0.g1, by decide, ?_⟩
  rw [show putF (Str.ofString "text") (V.str t) [] = [(Str.ofString "text", V.str t)] from rfl]
  have nba : b ≠ a := ne_of hb ha1 fun z => nomatch z
  have keep1 : ∀ c o, c ≠ a → H1 c = some o → (upd H1 a (.ins CG dx [("text", .str t)])) c = some o := fun c o n z => by rw [upd_ne n]; exact z
  have ha2 : (upd H1 a (.ins CG dx [("text", .str t)])) a = some (.ins CG dx [("text", .str t)]) := upd_same
  have tb2 : LamX.Tabs (T0 P0) (upd H1 a (.ins CG dx [("text", .str t)])) := tabs_upd tb1 ha1 (fun _ z => nomatch z) fun _ _ z => nomatch z
  generalize upd H1 a (.ins CG dx [("text", .str t)]) = H2 at keep1 ha2 tb2 ⊢
  refine ⟨fun σ' H' => σ' = [some (.ref a), some (.str t), some (.ref b), none] ∧ ∃ rt, H' a = some (.ins CG dx [("text", .str t), ("rules", .ref rt)]) ∧ H' rt = some (.tup ((lnsOf t).map V.str)) ∧ (∀ c o, c ≠ a → H2 c = some o → H' c = some o) ∧ LamX.Tabs (T0 P0) H', ?_, ?_⟩
  · have fin : ∀ (l : Addr) (H3 : Hp), Same H2 H3 → H3 l = some (.tup ((lnsOf t).map V.str)) → ∃ rt, (upd H3 a (.ins CG dx [("text", .str t), ("rules", .ref l)])) a = some (.ins CG dx [("text", .str t), ("rules", .ref rt)]) ∧ (upd H3 a (.ins CG dx [("text", .str t), ("rules", .ref l)])) rt = some (.tup ((lnsOf t).map V.str)) ∧ (∀ c o, c ≠ a → H2 c = some o → (upd H3 a (.ins CG dx [("text", .str t), ("rules", .ref l)])) c = some o) ∧ LamX.Tabs (T0 P0) (upd H3 a (.ins CG dx [("text", .str t), ("rules", .ref l)])) := fun l H3 s3 hl => by
      have ha3 := s3 _ _ ha2
      exact ⟨l, upd_same, by rw [upd_ne (ne_of hl ha3 fun z => nomatch z)]; exact hl, fun c o n z => by rw [upd_ne n]; exact s3 _ _ z, tabs_upd (tb2.ext s3) ha3 (fun _ z => nomatch z) fun _ _ z => nomatch z⟩
    refine ⟨_, rfl, _, ⟨szB (by omega), rfl⟩, ?_⟩
    rw [str_ne0]
    by_cases c0 : t ≠ ""
    · have eL : (Txt.split t (Str.ofString "\n")).map V.str = (lnsOf t).map V.str := by unfold lnsOf; rw [if_neg c0]
      refine ify (decide_eq_true c0) ⟨_, rfl, ⟨_, rfl⟩, _, _, rfl, rfl, by decide +kernel, szB (by omega), fun L hL => ?_⟩
      refine ⟨L, _, rfl, .inl ⟨SqL.of upd_same, fun l hl => ?_⟩⟩
      have sL := same1 hL (.lst ((Txt.split t (Str.ofString "\n")).map V.str))
      have sl := same_new sL hl (.tup ((Txt.split t (Str.ofString "\n")).map V.str))
      refine ⟨_, rfl, a, CG, dx, _, rfl, sl _ _ ha2, clG, A0.g2, (by decide : (1 : Nat) < 1000), rfl, ?_⟩
      exact fin l _ sl (by rw [upd_same, eL])
    · have eL : lnsOf t = [] := by unfold lnsOf; rw [if_pos (Decidable.not_not.mp c0)]
      refine ifn (decide_eq_false c0) ⟨szB (by decide), fun l hl => ?_⟩
      have sl := same1 hl (.tup [])
      refine ⟨_, rfl, a, CG, dx, _, rfl, sl _ _ ha2, clG, A0.g2, (by decide : (1 : Nat) < 1000), rfl, ?_⟩
      exact fin l _ sl (by rw [upd_same, eL]; rfl)
  rintro σ' H3 ⟨rfl, rt, ha3, hrt, keep3, tb3⟩
  have keep13 : ∀ c o, c ≠ a → H1 c = some o → H3 c = some o := fun c o n z => keep3 c o n (keep1 c o n z)
  have hb3 := keep13 _ _ nba hb
  have hru3 : ∀ r ∈ rs, RuG CR H3 r := fun r hr => by
    obtain ⟨a', dx', k, op, cx, nd, es, db, ln, e, h1, h2⟩ := hru r hr
    exact ⟨a', dx', k, op, cx, nd, es, db, ln, e, keep13 _ _ (neR h1 fun z => nomatch z) h1, h2⟩
  refine ⟨_, rfl, b, rfl, ⟨_, SqT.of hb3⟩, fun D hD => ?_⟩
  refine lc_tup (K := K) (a := b) (xs := rs) (fun i H' => ∃ ns : List Int, H' D = some (.lst (ns.map V.int)) ∧ Same H3 H' ∧ ns.length = i) ⟨[], upd_same, same1 hD _, rfl⟩ (fun i H' _ ⟨_, _, z, _⟩ => SqT.of (z _ _ hb3)) ?_ ?_
  · rintro i x H4 hx ⟨ns, g1, g2, g3⟩
    have hil := (List.getElem?_eq_some_iff.mp hx).1
    refine ⟨rfl, ?_⟩
    dsimp only [tYes]
    rw [if_pos rfl]
    refine ⟨_, rfl, x, rfl, (hru3 x (List.mem_of_getElem? hx)).same g2, fun z H5 s5 => ?_⟩
    refine ⟨_, s5 _ _ g1, szL (by rw [List.length_map]; omega), ns ++ [z], by rw [upd_same, List.map_append]; rfl, ?_, by rw [List.length_append, g3]; rfl⟩
    exact fun c o y => by rw [upd_ne (ne_of_none y hD)]; exact s5 _ _ (g2 _ _ y)
  · rintro H4 ⟨ns, g1, g2, g3⟩
    refine ⟨D, ns, rfl, SqL.of g1, _, _, rfl, rfl, ?_⟩
    have ha4 := g2 _ _ ha3
    refine ⟨_, rfl, a, CG, dx, _, rfl, ha4, clG, A0.g3, (by decide : (2 : Nat) < 1000), ?_⟩
    rw [show putF (Str.ofString "weight") (V.int (1 + ns.sum)) [(Str.ofString "text", V.str t), (Str.ofString "rules", V.ref rt)] = [(Str.ofString "text", V.str t), (Str.ofString "rules", V.ref rt), (Str.ofString "weight", V.int (1 + ns.sum))] from rfl]
    have tb5 : LamX.Tabs (T0 P0) (upd H4 a (.ins CG dx [("text", .str t), ("rules", .ref rt), ("weight", .int (1 + ns.sum))])) := tabs_upd (tb3.ext g2) ha4 (fun _ z => nomatch z) fun _ _ z => nomatch z
    have ha5 : (upd H4 a (.ins CG dx [("text", .str t), ("rules", .ref rt), ("weight", .int (1 + ns.sum))])) a = some (.ins CG dx [("text", .str t), ("rules", .ref rt), ("weight", .int (1 + ns.sum))]) := upd_same
    have keep5 : ∀ c o, c ≠ a → H3 c = some o → (upd H4 a (.ins CG dx [("text", .str t), ("rules", .ref rt), ("weight", .int (1 + ns.sum))])) c = some o := fun c o n z => by rw [upd_ne n]; exact g2 _ _ z
    generalize upd H4 a (.ins CG dx [("text", .str t), ("rules", .ref rt), ("weight", .int (1 + ns.sum))]) = H5 at tb5 ha5 keep5 ⊢
    refine ⟨_, rfl, fun x dxx hx hdx ne => ?_⟩
    have hdx' := hdx
    have sx1 := same1 hdx (.own x)
    have hx1 : (upd H5 dxx (.own x)) x = none := by rw [upd_ne ne.symm]; exact hx
    have sx := same_new sx1 hx1 (.ins CD dxx [])
    have nrt : rt ≠ a := ne_of hrt ha3 fun z => nomatch z
    refine ⟨x, dxx, b, rs, rfl, upd_same, sx _ _ (keep5 _ _ nba hb3), hz, fun r hr => ?_, tb5.ext sx, fun H6 x6 tb6 => ⟨rfl, ?_⟩⟩
    · obtain ⟨a', dx', k, op, cx, nd, es, db, ln, e, h1, h2⟩ := hru r hr
      have nn := neR h1 fun z => nomatch z
      exact ⟨a', dx', k, op, cx, nd, es, db, ln, e, sx _ _ (keep5 _ _ nn (keep13 _ _ nn h1)), h2⟩
    have nx : ∀ {c o}, H5 c = some o → c ≠ x := fun z => ne_of_none z hx
    have ha6 := x6 _ _ (nx ha5) (sx _ _ ha5) (fun _ z => nomatch z)
    have hrt5 := keep5 _ _ nrt hrt
    have hrt6 := x6 _ _ (nx hrt5) (sx _ _ hrt5) (fun _ z => nomatch z)
    refine ⟨_, rfl, a, CG, dx, _, rfl, ha6, clG, A0.g4, (by decide : (3 : Nat) < 1000), ?_⟩
    refine qo e0 _ (fun c o n z m => ?_) (tabs_upd tb6 ha6 (fun _ z => nomatch z) fun _ _ z => nomatch z) ⟨dx, rt, _, x, upd_same, by rw [upd_ne nrt]; exact hrt6⟩
    rw [upd_ne n]
    have z5 := keep5 _ _ n (keep13 _ _ n (s1 _ _ z))
    exact x6 _ _ (nx z5) (sx _ _ z5) m

end
end Vf

set_option maxRecDepth 100000
set_option maxHeartbeats 4000000
namespace Vf
open PySem PySem.Spec PyProof.Rows L2 SX
section
variable {P : Program} {w : World} {K : PySem.W.Frag} {mg : Str → Option Value} {base : Heap}
theorem ok_wrongColumn {f : Addr} {fd : FuncData} (F : C8.Def K mg "wrong_column" s_wrongColumn f fd) (b : Binds K fd ["line", "openers"] []) (T : Tx K w mg) (C_canStand : C8.Cal P w K mg base 2 "can_stand" (sp_canStand K) []) : C8.Cal P w K mg base 3 "wrong_column" (sp_wrongColumn K) [] := by
  refine C8.cal0 F b .nil sc_wrongColumn (fun vs H Q E h => ?_) (fun cdv A outer s H vs Q E hr h => ?_)
  · obtain ⟨o, os, l, rfl, _⟩ := h; rfl
  have hu := hu_of hr
  refine ⟨_, (pss_cons (ps_set (i := 2) sc_wrongColumn.nd rfl (Or.inl rfl) (pe_split (pv 0) pe_str))
      (pss_cons (ps_set (i := 3) sc_wrongColumn.nd rfl (Or.inl rfl) pe_int)
      (pss_cons (ps_for PassesOwn.never rfl (pi_enum (by rfl) T.z_enumerate (pa_cons (pv 2) pa_nil)) (pg_tup rfl (pgs_cons (pg_name (i := 4) sc_wrongColumn.nd rfl (Or.inl rfl)) (pgs_cons (pg_name (i := 5) sc_wrongColumn.nd rfl (Or.inl rfl)) pgs_nil)))
      (pss_cons (ps_if (pt_not (pt_val (C8.pe_c C_canStand hr (by decide) rfl (pa_cons (pe_slice sl_list (pv 2) po_none (po_some (pv 4))) (pa_cons (pv 5) (pa_cons (pv 1) pa_nil))))))
      (pss_one (ps_ret (pv 3)))
      pss_nil)
      (pss_one (ps_aug (i := 3) sc_wrongColumn.nd rfl (Or.inl rfl) (pe_op op_add (pe_callB call_len (by rfl) T.z_len PySem.boot_len (pa_cons (pv 5) pa_nil)) pe_int) ip_add))))
      (C8.pss_cut (ps_if (PW.pt (pw_or (pt_cmpR op_lt (pe_callB call_len (by rfl) T.z_len PySem.boot_len (pa_cons (pv 2) pa_nil)) pe_int (nomark _)) (pw_or1 (pt_cmpR op_in_seq (pe_ix ix_list (pv 2) (pe_un un_neg pe_int) (fun _ _ => rfl)) (pe_tup (pa_cons pe_str (pa_cons pe_str pa_nil))) rfl))))
      (pss_one (ps_ret (pe_op op_add (pe_callB call_len (by rfl) T.z_len PySem.boot_len (pa_cons (pv 0) pa_nil)) pe_int)))
      pss_nil)
      (pss_one (ps_ret pe_non)))))), ?_⟩

  obtain ⟨o, os, l, rfl, ho, hl, q⟩ := h
  obtain ⟨b1, b2, b3⟩ := spS_bnd l
  refine ⟨_, rfl, ⟨_, rfl⟩, _, _, rfl, rfl, by decide +kernel, szB (by omega), fun W hW => ?_⟩
  have eW : Txt.split l (Str.ofString " ") = spS l := rfl
  rw [eW]
  have z1 : (spS l).length ≤ 1001 := by omega
  have gW : (upd H W (.lst ((spS l).map V.str))) W = some (.lst ((spS l).map V.str)) := upd_same
  refine ⟨_, rfl, W, (spS l).map V.str, rfl, SqL.of gW, ?_⟩
  refine for_it walk_enum (fun i σ H' => ∃ (c : Nat) (v4 v5 : Option V), σ = [some (.str l), some (.ref o), some (.ref W), some (.int (c : Int)), v4, v5] ∧ H' W = some (.lst ((spS l).map V.str)) ∧ Same H H' ∧ Vd ((spS l).take i) os ∧ wcGo os [] (spS l) 1 = wcGo os ((spS l).take i) ((spS l).drop i) c)
    ⟨1, none, none, rfl, gW, same1 hW _, vd_nil os, rfl⟩ (fun i σ H' _ ⟨_, _, _, _, z, _⟩ => SqL.of z) ?_ ?_
  · rintro i x σ H1 H2 hi ⟨c, v4, v5, rfl, h1, s1, vd, e⟩ ⟨T', x', y', rfl, hT, rfl, ex, ey⟩
    cases ex
    dsimp only at ey
    rw [List.getElem?_map] at ey
    obtain ⟨w', hw', rfl⟩ := Option.map_eq_some_iff.mp ey
    have s2 := same_new s1 hT (.tup [.int (i : Int), .str w'])
    have h2 : (upd H1 T' (.tup [.int (i : Int), .str w'])) W = some (.lst ((spS l).map V.str)) := by rw [upd_ne (ne_of_none h1 hT)]; exact h1
    refine ⟨T', _, rfl, SqT.of upd_same, rfl, _, _, rfl, _, _, rfl, rfl, ?_⟩
    refine ⟨_, rfl, _, rfl, (i : Int), rfl, W, _, rfl, SqL.of h2, fun G hG => ?_⟩
    rw [cut_to, strs_take]
    have s3 := same_new s2 hG (.lst (((spS l).take i).map V.str))
    have h3 : (upd (upd H1 T' (.tup [.int (i : Int), .str w'])) G (.lst (((spS l).take i).map V.str))) W = some (.lst ((spS l).map V.str)) := by rw [upd_ne (ne_of_none h2 hG)]; exact h2
    have hwl : w'.length ≤ 1000 := Nat.le_trans (b2 w' (List.mem_of_getElem? hw')) hl
    refine ⟨_, rfl, _, rfl, G, o, (spS l).take i, os, w', rfl, SqL.of upd_same, sqL_same s3 ho, vd, by rw [List.length_take]; omega, hwl, fun H3 s4 => ⟨_, rfl, ?_⟩⟩
    have ed : (spS l).drop i = w' :: (spS l).drop (i + 1) := by
      obtain ⟨hlt, eg⟩ := List.getElem?_eq_some_iff.mp hw'
      rw [← eg]; exact List.drop_eq_getElem_cons hlt
    have et : (spS l).take (i + 1) = (spS l).take i ++ [w'] := by rw [List.take_add_one, hw']; rfl
    rw [ed] at e
    rw [wcGo_cons] at e
    have sH : Same H H3 := fun b u z => s4 _ _ (s3 b u z)
    cases cb : canB ((spS l).take i) w' os with
    | false =>
      rw [cb, if_neg Bool.false_ne_true] at e
      refine ifT ⟨_, rfl, ?_⟩
      have qq := q H3 sH
      unfold wcol at qq
      rw [show wcGo os [] (spS l) 1 = some c from e] at qq
      exact qq
    | true =>
      rw [cb, if_pos rfl] at e
      refine ifF ⟨_, rfl, _, rfl, _, w'.length, rfl, ⟨szB (by omega), rfl⟩, _, _, rfl, rfl, _, _, rfl, rfl, ?_⟩
      refine ⟨c + (w'.length + 1), _, _, rfl, s4 _ _ h3, sH, by rw [et]; exact vd_snoc vd cb, by rw [et]; exact e⟩
  · rintro σ H1 ⟨c, v4, v5, rfl, h1, s1, vd, e⟩
    rw [List.length_map] at vd e
    rw [List.drop_length, List.take_length] at e
    rw [List.take_length] at vd
    have en : wcGo os [] (spS l) 1 = none := e
    have qw : ∀ H', Same H H' → Q (colV .non (if (spS l).length < 4 ∨ (spS l).getLast? = some ("nested" : Str) ∨ (spS l).getLast? = some ("escape" : Str) then some (l.length + 1) else none)) H' := fun H' s' => by
      have := q H' s'
      unfold wcol at this
      rw [en] at this
      exact this
    refine ⟨fun σ' H' => Same H H' ∧ σ' = [some (.str l), some (.ref o), some (.ref W), some (.int (c : Int)), v4, v5] ∧ ¬ ((spS l).length < 4 ∨ (spS l).getLast? = some ("nested" : Str) ∨ (spS l).getLast? = some ("escape" : Str)), ?_, ?_⟩
    · refine ⟨_, rfl, _, (spS l).length, rfl, .inl ⟨_, SqL.of h1, (List.length_map ..).symm⟩, _, _, rfl, rfl, _, rfl, ?_⟩
      have e4 : decide (((spS l).length : Int) < 4) = decide ((spS l).length < 4) := decide_eq_decide.mpr (by omega)
      rw [e4]
      by_cases c4 : (spS l).length < 4
      · refine ify (decide_eq_true c4) ?_
        have := qw H1 s1
        rw [if_pos (.inl c4)] at this
        exact ⟨_, rfl, _, l.length, rfl, ⟨szB (by omega), rfl⟩, _, _, rfl, rfl, this⟩
      · refine ifn (decide_eq_false c4) ?_
        obtain ⟨u, gl, lst⟩ := at_lastS (ws := spS l) (by intro z; rw [z] at b3; exact absurd b3 (by decide))
        refine ⟨_, rfl, _, rfl, W, _, _, _, rfl, rfl, SqL.of h1, lst, sz_2, fun t ht => ?_⟩
        refine ⟨t, _, rfl, .inr (SqT.of upd_same), rfl, rfl, _, rfl, ?_⟩
        rw [show ([V.str "nested", V.str "escape"] : List V) = (["nested", "escape"] : List Str).map V.str from rfl, inV_strs]
        have s2 := same_new s1 ht (.tup ((["nested", "escape"] : List Str).map V.str))
        by_cases c5 : u ∈ (["nested", "escape"] : List Str)
        · refine ify (decide_eq_true c5) ?_
          have c6 : u = "nested" ∨ u = "escape" := by simpa using c5
          have := qw _ s2
          rw [if_pos (.inr (by rw [gl]; rcases c6 with z | z <;> rw [z] <;> simp))] at this
          exact ⟨_, rfl, _, l.length, rfl, ⟨szB (by omega), rfl⟩, _, _, rfl, rfl, this⟩
        · refine ifn (decide_eq_false c5) ⟨s2, rfl, ?_⟩
          have c6 : u ≠ "nested" ∧ u ≠ "escape" := by simpa using c5
          rw [gl]
          rintro (z | z | z)
          · exact c4 z
          · exact c6.1 (Option.some.inj z)
          · exact c6.2 (Option.some.inj z)
    · rintro σ' H2 ⟨s2, rfl, nn⟩
      have := qw H2 s2
      rw [if_neg nn] at this
      exact this

end
end Vf

set_option maxRecDepth 100000
set_option maxHeartbeats 4000000
namespace Vf
open PySem PySem.Spec PyProof.Rows L2 SX
theorem all_ok {P : Program} {w : World} {K : PySem.W.Frag} {mg : Str → Option Value} {CT CBadWord CBadNumber CBadStep CTooMany CNoTongue CW CL CR CD CG CS CC cc P0 fL fR fD fG fS fC fEL fEG fES fEC : Addr} (T : Tx K w mg)
    (d_isKind : Dn K mg "is_kind" s_isKind ["value"])
    (d_isText : Dn K mg "is_text" s_isText ["value"])
    (d_isWord : Dn K mg "is_word" s_isWord ["value"])
    (d_isPatch : Dn K mg "is_patch" s_isPatch ["value"])
    (d_isWhole : Dn K mg "is_whole" s_isWhole ["value"])
    (d_isLineWord : Dn K mg "is_line_word" s_isLineWord ["value"])
    (d_isWithin : Dn K mg "is_within" s_isWithin ["value", "bounds"])
    (d_isPlain : Dn K mg "is_plain" s_isPlain ["value"])
    (d_plainTest : Dn K mg "plain_test" s_plainTest ["word", "argument"])
    (d_rangeTest : Dn K mg "range_test" s_rangeTest ["first", "second"])
    (d_otherTest : Dn K mg "other_test" s_otherTest ["test"])
    (d_isMark : Dn K mg "is_mark" s_isMark ["word"])
    (d_optionCanStand : Dn K mg "option_can_stand" s_optionCanStand ["ahead", "word"])
    (d_canStand : Dn K mg "can_stand" s_canStand ["ahead", "word", "openers"])
    (d_wrongColumn : Dn K mg "wrong_column" s_wrongColumn ["line", "openers"])
    (d_readRules : Dn K mg "read_rules" s_readRules ["text"])
    (d_ruleWeight : Dn K mg "rule_weight" s_ruleWeight ["rule"])
    (d_pieceMarks : Dn K mg "piece_marks" s_pieceMarks ["rule", "number", "depth"])
    (d_checkExchange : Dn K mg "check_exchange" s_checkExchange ["old", "new"])
    (d_checkTest : Dn K mg "check_test" s_checkTest ["test"])
    (d_firstStep : Dn K mg "first_step" s_firstStep ["old", "new"])
    (d_onceStep : Dn K mg "once_step" s_onceStep ["old", "new"])
    (d_dropStep : Dn K mg "drop_step" s_dropStep ["test"])
    (d_keepStep : Dn K mg "keep_step" s_keepStep ["test"])
    (d_putStep : Dn K mg "put_step" s_putStep ["where", "new", "test"])
    (d_stripStep : Dn K mg "strip_step" s_stripStep ["old", "test"])
    (d_growthOf : Dn K mg "growth_of" s_growthOf ["step"])
    (d_checkSteps : Dn K mg "check_steps" s_checkSteps ["steps", "tongue"])
    (d_pen : Dn K mg "_law_pen" s_pen ["_law_script"])
    (d_draw : Dn K mg "_law_draw" s_draw ["_law_pen_here", "_law_many"])
    (d_pick : Dn K mg "_law_pick" s_pick ["_law_pen_here", "_law_some"])
    (d_signs : Dn K mg "_law_signs" s_signs ["_law_pen_here"])
    (d_lawWord : Dn K mg "_law_word" s_lawWord ["_law_pen_here", "_law_signs_here", "_law_most"])
    (d_patch : Dn K mg "_law_patch" s_patch ["_law_pen_here", "_law_signs_here", "_law_most"])
    (d_lawPlainTest : Dn K mg "_law_plain_test" s_lawPlainTest ["_law_pen_here", "_law_signs_here"])
    (d_lawTest : Dn K mg "_law_test" s_lawTest ["_law_pen_here", "_law_signs_here"])
    (d_testMade : Dn K mg "_law_test_made" s_testMade ["_law_check"])
    (d_lawStep : Dn K mg "_law_step" s_lawStep ["_law_pen_here", "_law_signs_here"])
    (d_lawGrowth : Dn K mg "_law_growth" s_lawGrowth ["_law_steps"])
    (d_stepMade : Dn K mg "_law_step_made" s_stepMade ["_law_step_here"])
    (d_refused : Dn K mg "_law_refused" s_refused ["_law_steps", "_law_reading"])
    (d_drawnSteps : Dn K mg "_law_drawn_steps" s_drawnSteps ["_law_pen_here", "_law_signs_here"])
    (d_madeOrNot : Dn K mg "_law_made_or_not" s_madeOrNot ["_law_step_here"])
    (d_due : Dn K mg "_law_due" s_due ["_law_steps", "_law_reading"])
    (d_areTonguesRight : Dn K mg "_law_are_tongues_right" s_areTonguesRight ["_law_pen_here"])
    (d_replaceStep : Dd K mg "replace_step" s_replaceStep ["old", "new", "kind", "test"])
    (oL : Oc K mg "LineTest" CL fL) (oR : Oc K mg "Rule" CR fR) (oD : Oc K mg "Reader" CD fD) (oG : Oc K mg "Tongue" CG fG) (oS : Oc K mg "Step" CS fS) (oC : Oc K mg "Script" CC fC) (A0 : Ca K CR CD CG) (AL : CaL K CL) (AS : CaS K CS) (AC : CaC K CC) (FL : Fgn K CL) (FS : Fgn K CS) (FC : Fgn K CC) (FG : Fgn K CG)
    (eL : OwnC K CL fEL) (eG : OwnC K CG fEG) (eS : OwnC K CS fES) (eC : OwnC K CC fEC)
    (n_LineTest_init : ∃ (q : Str) (fd : FuncData), C8.Fun K "__init__" q s_LineTest_init fL fd ∧ Binds K fd ["self", "word", "argument", "parts", "negated"] [])
    (n_Rule_init : ∃ (q : Str) (fd : FuncData), C8.Fun K "__init__" q s_Rule_init fR fd ∧ Binds K fd ["self", "words"] [])
    (n_Reader_init : ∃ (q : Str) (fd : FuncData), C8.Fun K "__init__" q s_Reader_init fD fd ∧ Binds K fd ["self", "rules"] [])
    (n_Tongue_init : ∃ (q : Str) (fd : FuncData), C8.Fun K "__init__" q s_Tongue_init fG fd ∧ Binds K fd ["self", "text"] [])
    (n_LineTest_eq : ∃ (q : Str) (fd : FuncData), C8.Fun K "__eq__" q s_LineTest_eq fEL fd ∧ Binds K fd ["self", "other"] [])
    (n_Tongue_eq : ∃ (q : Str) (fd : FuncData), C8.Fun K "__eq__" q s_Tongue_eq fEG fd ∧ Binds K fd ["self", "other"] [])
    (n_Step_eq : ∃ (q : Str) (fd : FuncData), C8.Fun K "__eq__" q s_Step_eq fES fd ∧ Binds K fd ["self", "other"] [])
    (n_Script_eq : ∃ (q : Str) (fd : FuncData), C8.Fun K "__eq__" q s_Script_eq fEC fd ∧ Binds K fd ["self", "other"] [])
    (n_Step : St0 K fS) (n_Script : Md K "__init__" s_Script_init ["self", "steps", "tongue"] fC)
    (k_BadText : Kc K mg "BadText" CT CW ["line", "column"] i_BadText) (k_BadWord : Kc K mg "BadWord" CBadWord CW ["what"] i_BadWord) (k_BadNumber : Kc K mg "BadNumber" CBadNumber CW ["what", "number"] i_BadNumber) (k_BadStep : Kc K mg "BadStep" CBadStep CW ["number"] i_BadStep) (k_TooMany : Kc K mg "TooMany" CTooMany CW ["what", "many", "limit"] i_TooMany) (k_NoTongue : Kc K mg "NoTongue" CNoTongue CW ["number"] i_NoTongue)
    (gW : mg "WorkshopError" = some (.ref CW)) (x : Xk K CTooMany CBadStep CNoTongue CBadWord CW)
    (nA : ∃ (f : Addr) (fd : FuncData), FunC K mg "longest_first" s_longestFirst f fd cc ∧ Binds K fd ["marks"] []) (base : Heap) (TB : LamX.TabB base mg cc P0) {f : Addr} {fd : FuncData} (F : C8.Def K mg "law" s_law f fd) : RunAt P w K mg base callerA f fd ["_law_script"] (sp_law K P0) := by
  have ES : Es P w K mg base CT CBadWord CBadNumber CBadStep CTooMany CNoTongue CW := { r_BadText := rk_mk k_BadText ini_BadText, r_BadWord := rk_mk k_BadWord ini_BadWord, r_BadNumber := rk_mk k_BadNumber ini_BadNumber, r_BadStep := rk_mk k_BadStep ini_BadStep, r_TooMany := rk_mk k_TooMany ini_TooMany, r_NoTongue := rk_mk k_NoTongue ini_NoTongue, g_WorkshopError := gW, e11 := x.e11, e21 := x.e21, e22 := x.e22, e31 := x.e31, e32 := x.e32, e33 := x.e33, e41 := x.e41, e42 := x.e42, e43 := x.e43, e44 := x.e44, tS := x.tS, tN := x.tN, tB := x.tB, cS := k_BadStep.c.ec.e, cN := k_NoTongue.c.ec.e, cB := k_BadWord.c.ec.e }
  have G_LineTest := oL.g
  have G_Rule := oR.g
  have G_Reader := oD.g
  have G_Tongue := oG.g
  have G_Step := oS.g
  have G_Script := oC.g
  obtain ⟨q_LineTest, fd_LineTest, F_LineTest, b_LineTest⟩ := n_LineTest_init
  obtain ⟨q_Rule, fd_Rule, F_Rule, b_Rule⟩ := n_Rule_init
  obtain ⟨q_Reader, fd_Reader, F_Reader, b_Reader⟩ := n_Reader_init
  obtain ⟨q_Tongue, fd_Tongue, F_Tongue, b_Tongue⟩ := n_Tongue_init
  obtain ⟨qe_LineTest, fde_LineTest, Fe_LineTest, be_LineTest⟩ := n_LineTest_eq
  obtain ⟨qe_Tongue, fde_Tongue, Fe_Tongue, be_Tongue⟩ := n_Tongue_eq
  obtain ⟨qe_Step, fde_Step, Fe_Step, be_Step⟩ := n_Step_eq
  obtain ⟨qe_Script, fde_Script, Fe_Script, be_Script⟩ := n_Script_eq
  obtain ⟨f_isKind, fd_isKind, F_isKind, b_isKind⟩ := d_isKind
  have C_isKind := ok_isKind (P := P) (w := w) (base := base) F_isKind b_isKind T
  obtain ⟨f_isText, fd_isText, F_isText, b_isText⟩ := d_isText
  have C_isText := ok_isText (P := P) (w := w) (base := base) F_isText b_isText T
  obtain ⟨f_isWord, fd_isWord, F_isWord, b_isWord⟩ := d_isWord
  have C_isWord := ok_isWord (P := P) (w := w) (base := base) F_isWord b_isWord T C_isText
  obtain ⟨f_isPatch, fd_isPatch, F_isPatch, b_isPatch⟩ := d_isPatch
  have C_isPatch := ok_isPatch (P := P) (w := w) (base := base) F_isPatch b_isPatch T C_isText
  obtain ⟨f_isWhole, fd_isWhole, F_isWhole, b_isWhole⟩ := d_isWhole
  have C_isWhole := ok_isWhole (P := P) (w := w) (base := base) F_isWhole b_isWhole T
  obtain ⟨f_isLineWord, fd_isLineWord, F_isLineWord, b_isLineWord⟩ := d_isLineWord
  have C_isLineWord := ok_isLineWord (P := P) (w := w) (base := base) F_isLineWord b_isLineWord T C_isPatch
  obtain ⟨f_isWithin, fd_isWithin, F_isWithin, b_isWithin⟩ := d_isWithin
  have C_isWithin := ok_isWithin (P := P) (w := w) (base := base) F_isWithin b_isWithin T C_isWhole
  obtain ⟨f_isPlain, fd_isPlain, F_isPlain, b_isPlain⟩ := d_isPlain
  have C_isPlain := ok_isPlain (P := P) (w := w) (base := base) (CL := CL) F_isPlain b_isPlain T G_LineTest AL
  have M_LineTest := ok_init (P := P) (w := w) (base := base) (CL := CL) AL oL.mI oL.g F_LineTest b_LineTest
  have EQ1 : Eqc P w K mg base 1 CL (EqP CL) := ⟨⟨fEL, fde_LineTest, ["self", "other"], eL, ok_eqP (P := P) (w := w) (base := base) (CL := CL) AL G_LineTest T Fe_LineTest, be_LineTest⟩⟩
  have EO_LineTest : EqO P w K mg base 2 CL (EqR CL) := ⟨⟨fEL, fde_LineTest, ["self", "other"], eL, ok_eq (P := P) (w := w) (base := base) (CL := CL) AL G_LineTest T Fe_LineTest EQ1, ok_eqF (P := P) (w := w) (base := base) (CL := CL) AL G_LineTest T Fe_LineTest, be_LineTest⟩⟩
  obtain ⟨f_plainTest, fd_plainTest, F_plainTest, b_plainTest⟩ := d_plainTest
  have C_plainTest := ok_plainTest (P := P) (w := w) (base := base) (CL := CL) (CT := CT) (CBadWord := CBadWord) (CBadNumber := CBadNumber) (CBadStep := CBadStep) (CTooMany := CTooMany) (CNoTongue := CNoTongue) (CW := CW) F_plainTest b_plainTest T ES M_LineTest AL C_isLineWord C_isWithin
  obtain ⟨f_rangeTest, fd_rangeTest, F_rangeTest, b_rangeTest⟩ := d_rangeTest
  have C_rangeTest := ok_rangeTest (P := P) (w := w) (base := base) (CL := CL) (CT := CT) (CBadWord := CBadWord) (CBadNumber := CBadNumber) (CBadStep := CBadStep) (CTooMany := CTooMany) (CNoTongue := CNoTongue) (CW := CW) F_rangeTest b_rangeTest T ES M_LineTest C_isPlain
  obtain ⟨f_otherTest, fd_otherTest, F_otherTest, b_otherTest⟩ := d_otherTest
  have C_otherTest := ok_otherTest (P := P) (w := w) (base := base) (CL := CL) (CT := CT) (CBadWord := CBadWord) (CBadNumber := CBadNumber) (CBadStep := CBadStep) (CTooMany := CTooMany) (CNoTongue := CNoTongue) (CW := CW) F_otherTest b_otherTest T ES M_LineTest G_LineTest AL
  obtain ⟨f_isMark, fd_isMark, F_isMark, b_isMark⟩ := d_isMark
  have C_isMark := ok_isMark (P := P) (w := w) (base := base) F_isMark b_isMark T
  obtain ⟨f_optionCanStand, fd_optionCanStand, F_optionCanStand, b_optionCanStand⟩ := d_optionCanStand
  have C_optionCanStand := ok_optionCanStand (P := P) (w := w) (base := base) F_optionCanStand b_optionCanStand T
  obtain ⟨f_canStand, fd_canStand, F_canStand, b_canStand⟩ := d_canStand
  have C_canStand := ok_canStand (P := P) (w := w) (base := base) F_canStand b_canStand T C_isMark C_optionCanStand
  obtain ⟨f_wrongColumn, fd_wrongColumn, F_wrongColumn, b_wrongColumn⟩ := d_wrongColumn
  have C_wrongColumn := ok_wrongColumn (P := P) (w := w) (base := base) F_wrongColumn b_wrongColumn T C_canStand
  have M_Rule := ok_Rule_init (P := P) (w := w) (base := base) (CR := CR) (CD := CD) (CG := CG) oR.mI oR.g F_Rule b_Rule T A0
  obtain ⟨f_readRules, fd_readRules, F_readRules, b_readRules⟩ := d_readRules
  have C_readRules := ok_readRules (P := P) (w := w) (base := base) (CR := CR) (CD := CD) (CG := CG) (CT := CT) (CBadWord := CBadWord) (CBadNumber := CBadNumber) (CBadStep := CBadStep) (CTooMany := CTooMany) (CNoTongue := CNoTongue) (CW := CW) F_readRules b_readRules T ES M_Rule A0 C_wrongColumn
  obtain ⟨f_ruleWeight, fd_ruleWeight, F_ruleWeight, b_ruleWeight⟩ := d_ruleWeight
  have C_ruleWeight := ok_ruleWeight (P := P) (w := w) (base := base) (CR := CR) (CD := CD) (CG := CG) F_ruleWeight b_ruleWeight T A0
  obtain ⟨f_pieceMarks, fd_pieceMarks, F_pieceMarks, b_pieceMarks⟩ := d_pieceMarks
  have C_pieceMarks := ok_pieceMarks (P := P) (w := w) (base := base) (CR := CR) (CD := CD) (CG := CG) F_pieceMarks b_pieceMarks T A0
  obtain ⟨f_l, fd_l, F_l, b_l⟩ := nA
  have C_longestFirst := ok_longestFirst (P := P) (w := w) (base := base) (P0 := P0) (cc := cc) F_l b_l T TB
  have M_Reader := ok_Reader_init (P := P) (w := w) (base := base) (CR := CR) (CD := CD) (CG := CG) (P0 := P0) oD.mI oD.g F_Reader b_Reader T A0 C_longestFirst C_pieceMarks
  have CX_Tongue := ok_Tongue_init (P := P) (w := w) (base := base) (CR := CR) (CD := CD) (CG := CG) (CT := CT) (P0 := P0) oG.mI oG.g F_Tongue b_Tongue T M_Reader A0 C_readRules C_ruleWeight
  have EO_Tongue : EqO P w K mg base 1 CG (EqG CG) := ⟨⟨fEG, fde_Tongue, ["self", "other"], eG, ok_Tongue_eq (P := P) (w := w) (base := base) (CR := CR) (CD := CD) (CG := CG) G_Tongue Fe_Tongue T A0, ok_Tongue_eqF (P := P) (w := w) (base := base) (CR := CR) (CD := CD) (CG := CG) G_Tongue Fe_Tongue T A0, be_Tongue⟩⟩
  obtain ⟨q_Step, fd_Step, F_Step, ⟨h1, w1⟩, ⟨h2, w2⟩, ⟨h3, w3⟩, ⟨h4, w4⟩, ⟨h5, w5⟩⟩ := n_Step
  have N_Step := ok_Step_init (P := P) (w := w) (base := base) (CR := CR) (CD := CD) (CG := CG) (CL := CL) (CS := CS) (CC := CC) F_Step T A0 AL AS AC FL FS FC FG
  have MN_Step_old_new_kind_test : MakN P w K mg base 1 "Step" CS (sp_Step_init CS) 1 ["old", "new", "kind", "test"] gv_old_new_kind_test := ⟨⟨fS, fd_Step, _, _, oS.mI, N_Step, oS.g, w1⟩⟩
  have MN_Step_old_new : MakN P w K mg base 1 "Step" CS (sp_Step_init CS) 1 ["old", "new"] gv_old_new := ⟨⟨fS, fd_Step, _, _, oS.mI, N_Step, oS.g, w2⟩⟩
  have MN_Step_test : MakN P w K mg base 1 "Step" CS (sp_Step_init CS) 1 ["test"] gv_test := ⟨⟨fS, fd_Step, _, _, oS.mI, N_Step, oS.g, w3⟩⟩
  have MN_Step_new_test : MakN P w K mg base 1 "Step" CS (sp_Step_init CS) 1 ["new", "test"] gv_new_test := ⟨⟨fS, fd_Step, _, _, oS.mI, N_Step, oS.g, w4⟩⟩
  have MN_Step_old_test : MakN P w K mg base 1 "Step" CS (sp_Step_init CS) 1 ["old", "test"] gv_old_test := ⟨⟨fS, fd_Step, _, _, oS.mI, N_Step, oS.g, w5⟩⟩
  obtain ⟨f_checkExchange, fd_checkExchange, F_checkExchange, b_checkExchange⟩ := d_checkExchange
  have C_checkExchange := ok_checkExchange (P := P) (w := w) (base := base) (CT := CT) (CBadWord := CBadWord) (CBadNumber := CBadNumber) (CBadStep := CBadStep) (CTooMany := CTooMany) (CNoTongue := CNoTongue) (CW := CW) F_checkExchange b_checkExchange T ES C_isWord C_isPatch
  obtain ⟨f_checkTest, fd_checkTest, F_checkTest, b_checkTest⟩ := d_checkTest
  have C_checkTest := ok_checkTest (P := P) (w := w) (base := base) (CR := CR) (CD := CD) (CG := CG) (CL := CL) (CS := CS) (CC := CC) (CT := CT) (CBadWord := CBadWord) (CBadNumber := CBadNumber) (CBadStep := CBadStep) (CTooMany := CTooMany) (CNoTongue := CNoTongue) (CW := CW) F_checkTest b_checkTest T ES G_LineTest A0 AL AS AC FL FS FC FG
  obtain ⟨f_rs, fd_rs, F_rs, b_rs, ds_rs, v_rs, bd_rs⟩ := d_replaceStep
  have N_rs := ok_replaceStep (P := P) (w := w) (base := base) (CR := CR) (CD := CD) (CG := CG) (CL := CL) (CS := CS) (CC := CC) (CT := CT) (CBadWord := CBadWord) (CBadNumber := CBadNumber) (CBadStep := CBadStep) (CTooMany := CTooMany) (CNoTongue := CNoTongue) (CW := CW) F_rs.fn T ES G_LineTest MN_Step_old_new_kind_test A0 AL AS AC FL FS FC FG C_checkExchange C_isKind
  have C_replaceStep : CalX P w K mg base 5 "replace_step" (sp_replaceStep CL CS) := ⟨⟨f_rs, fd_rs, _, N_rs, F_rs.mgf, F_rs.kp, b_rs⟩⟩
  have CD_replaceStep : CalXD P w K mg base 5 "replace_step" (sp_replaceStep CL CS) [.non] := ⟨⟨f_rs, fd_rs, _, _, N_rs, F_rs.mgf, F_rs.kp, bd_rs, v_rs⟩⟩
  obtain ⟨f_firstStep, fd_firstStep, F_firstStep, b_firstStep⟩ := d_firstStep
  have C_firstStep := ok_firstStep (P := P) (w := w) (base := base) (CL := CL) (CS := CS) F_firstStep b_firstStep T MN_Step_old_new C_checkExchange
  obtain ⟨f_onceStep, fd_onceStep, F_onceStep, b_onceStep⟩ := d_onceStep
  have C_onceStep := ok_onceStep (P := P) (w := w) (base := base) (CL := CL) (CS := CS) F_onceStep b_onceStep T MN_Step_old_new C_checkExchange
  obtain ⟨f_dropStep, fd_dropStep, F_dropStep, b_dropStep⟩ := d_dropStep
  have C_dropStep := ok_dropStep (P := P) (w := w) (base := base) (CL := CL) (CS := CS) F_dropStep b_dropStep T MN_Step_test C_checkTest
  obtain ⟨f_keepStep, fd_keepStep, F_keepStep, b_keepStep⟩ := d_keepStep
  have C_keepStep := ok_keepStep (P := P) (w := w) (base := base) (CL := CL) (CS := CS) F_keepStep b_keepStep T MN_Step_test C_checkTest
  obtain ⟨f_putStep, fd_putStep, F_putStep, b_putStep⟩ := d_putStep
  have C_putStep := ok_putStep (P := P) (w := w) (base := base) (CR := CR) (CD := CD) (CG := CG) (CL := CL) (CS := CS) (CC := CC) (CT := CT) (CBadWord := CBadWord) (CBadNumber := CBadNumber) (CBadStep := CBadStep) (CTooMany := CTooMany) (CNoTongue := CNoTongue) (CW := CW) F_putStep b_putStep T ES MN_Step_new_test A0 AL AS AC FL FS FC FG C_isLineWord C_checkTest
  obtain ⟨f_stripStep, fd_stripStep, F_stripStep, b_stripStep⟩ := d_stripStep
  have C_stripStep := ok_stripStep (P := P) (w := w) (base := base) (CL := CL) (CS := CS) (CT := CT) (CBadWord := CBadWord) (CBadNumber := CBadNumber) (CBadStep := CBadStep) (CTooMany := CTooMany) (CNoTongue := CNoTongue) (CW := CW) F_stripStep b_stripStep T ES MN_Step_old_test C_isLineWord C_checkTest
  obtain ⟨f_growthOf, fd_growthOf, F_growthOf, b_growthOf⟩ := d_growthOf
  have C_growthOf := ok_growthOf (P := P) (w := w) (base := base) (CR := CR) (CD := CD) (CG := CG) (CL := CL) (CS := CS) (CC := CC) F_growthOf b_growthOf T A0 AL AS AC FL FS FC FG
  obtain ⟨f_checkSteps, fd_checkSteps, F_checkSteps, b_checkSteps⟩ := d_checkSteps
  have C_checkSteps := ok_checkSteps (P := P) (w := w) (base := base) (CR := CR) (CD := CD) (CG := CG) (CL := CL) (CS := CS) (CC := CC) (CT := CT) (CBadWord := CBadWord) (CBadNumber := CBadNumber) (CBadStep := CBadStep) (CTooMany := CTooMany) (CNoTongue := CNoTongue) (CW := CW) F_checkSteps b_checkSteps T ES G_Tongue G_Step A0 AL AS AC FL FS FC FG
  obtain ⟨q_Script, fd_Script, F_Script, b_Script, ds_Script, v_Script, bd_Script⟩ := n_Script
  have N_Script := ok_Script_init (P := P) (w := w) (base := base) (CR := CR) (CD := CD) (CG := CG) (CL := CL) (CS := CS) (CC := CC) (CT := CT) (CBadWord := CBadWord) (CBadNumber := CBadNumber) (CBadStep := CBadStep) (CTooMany := CTooMany) (CNoTongue := CNoTongue) (CW := CW) F_Script T ES A0 AL AS AC FL FS FC FG C_checkSteps C_growthOf
  have CX_Script : MakX P w K mg base 5 "Script" CC (sp_Script_init K CL CS CG CC CBadStep CTooMany CNoTongue CBadWord) := ⟨⟨fC, fd_Script, _, oC.mI, N_Script, oC.g, b_Script⟩⟩
  have CD_Script : MakXD P w K mg base 5 "Script" CC (sp_Script_init K CL CS CG CC CBadStep CTooMany CNoTongue CBadWord) [.non] := ⟨⟨fC, fd_Script, _, _, oC.mI, N_Script, oC.g, bd_Script, v_Script⟩⟩
  have EA_Step : EqAny P w K mg base 4 CS (StR CL CS) := ⟨⟨fES, fde_Step, ["self", "other"], eS, ok_Step_eq (P := P) (w := w) (base := base) (CR := CR) (CD := CD) (CG := CG) (CL := CL) (CS := CS) (CC := CC) Fe_Step T G_Step EO_LineTest A0 AL AS AC FL FS FC FG, be_Step⟩, st_mon⟩
  have EO_Script : EqO P w K mg base 6 CC (EqC CL CS CG CC) := ⟨⟨fEC, fde_Script, ["self", "other"], eC, ok_Script_eq (P := P) (w := w) (base := base) (CR := CR) (CD := CD) (CG := CG) (CL := CL) (CS := CS) (CC := CC) Fe_Script T G_Script EO_Tongue EA_Step A0 AL AS AC FL FS FC FG, ok_Script_eqF (P := P) (w := w) (base := base) (CC := CC) (CR := CR) (CD := CD) (CG := CG) (CL := CL) (CS := CS) G_Script Fe_Script T EO_Tongue EA_Step, be_Script⟩⟩
  obtain ⟨f_pen, fd_pen, F_pen, b_pen⟩ := d_pen
  have C_pen := ok_pen (P := P) (w := w) (base := base) F_pen b_pen T
  obtain ⟨f_draw, fd_draw, F_draw, b_draw⟩ := d_draw
  have C_draw := ok_draw (P := P) (w := w) (base := base) F_draw b_draw T
  obtain ⟨f_pick, fd_pick, F_pick, b_pick⟩ := d_pick
  have C_pick := ok_pick (P := P) (w := w) (base := base) F_pick b_pick T C_draw
  obtain ⟨f_signs, fd_signs, F_signs, b_signs⟩ := d_signs
  have C_signs := ok_signs (P := P) (w := w) (base := base) F_signs b_signs T C_pick
  obtain ⟨f_lawWord, fd_lawWord, F_lawWord, b_lawWord⟩ := d_lawWord
  have C_lawWord := ok_lawWord (P := P) (w := w) (base := base) F_lawWord b_lawWord T C_draw C_pick
  obtain ⟨f_patch, fd_patch, F_patch, b_patch⟩ := d_patch
  have C_patch := ok_patch (P := P) (w := w) (base := base) F_patch b_patch T C_draw C_lawWord
  obtain ⟨f_lawPlainTest, fd_lawPlainTest, F_lawPlainTest, b_lawPlainTest⟩ := d_lawPlainTest
  have C_lawPlainTest := ok_lawPlainTest (P := P) (w := w) (base := base) F_lawPlainTest b_lawPlainTest T C_pick C_patch C_draw
  obtain ⟨f_lawTest, fd_lawTest, F_lawTest, b_lawTest⟩ := d_lawTest
  have C_lawTest := ok_lawTest (P := P) (w := w) (base := base) F_lawTest b_lawTest T C_lawPlainTest C_draw
  obtain ⟨f_testMade, fd_testMade, F_testMade, b_testMade⟩ := d_testMade
  have C_testMadeP := ok_testMadeP (P := P) (w := w) (base := base) (CBadWord := CBadWord) (CBadNumber := CBadNumber) (CL := CL) F_testMade b_testMade T C_plainTest C_otherTest
  have C_testMade := ok_testMade (P := P) (w := w) (base := base) (CBadWord := CBadWord) (CBadNumber := CBadNumber) (CL := CL) F_testMade b_testMade T C_rangeTest C_testMadeP C_plainTest C_otherTest
  obtain ⟨f_lawStep, fd_lawStep, F_lawStep, b_lawStep⟩ := d_lawStep
  have C_lawStep := ok_lawStep (P := P) (w := w) (base := base) F_lawStep b_lawStep T C_pick C_draw C_patch C_lawWord C_lawTest
  obtain ⟨f_lawGrowth, fd_lawGrowth, F_lawGrowth, b_lawGrowth⟩ := d_lawGrowth
  have C_lawGrowth := ok_lawGrowth (P := P) (w := w) (base := base) F_lawGrowth b_lawGrowth T
  obtain ⟨f_stepMade, fd_stepMade, F_stepMade, b_stepMade⟩ := d_stepMade
  have C_stepMade := ok_stepMade (P := P) (w := w) (base := base) (CL := CL) (CS := CS) F_stepMade b_stepMade T C_testMade C_replaceStep C_firstStep C_onceStep C_dropStep C_keepStep C_stripStep C_putStep
  obtain ⟨f_refused, fd_refused, F_refused, b_refused⟩ := d_refused
  have C_refused := ok_refused (P := P) (w := w) (base := base) (CG := CG) (CL := CL) (CS := CS) (CC := CC) (CT := CT) (CBadWord := CBadWord) (CBadNumber := CBadNumber) (CBadStep := CBadStep) (CTooMany := CTooMany) (CNoTongue := CNoTongue) (CW := CW) F_refused b_refused T ES CX_Script
  obtain ⟨f_drawnSteps, fd_drawnSteps, F_drawnSteps, b_drawnSteps⟩ := d_drawnSteps
  have C_drawnSteps := ok_drawnSteps (P := P) (w := w) (base := base) F_drawnSteps b_drawnSteps T C_draw C_lawStep C_pick C_patch
  obtain ⟨f_madeOrNot, fd_madeOrNot, F_madeOrNot, b_madeOrNot⟩ := d_madeOrNot
  have C_madeOrNot := ok_madeOrNot (P := P) (w := w) (base := base) (CL := CL) (CS := CS) F_madeOrNot b_madeOrNot T C_stepMade
  obtain ⟨f_due, fd_due, F_due, b_due⟩ := d_due
  have C_due := ok_due (P := P) (w := w) (base := base) F_due b_due T C_lawGrowth
  obtain ⟨f_areTonguesRight, fd_areTonguesRight, F_areTonguesRight, b_areTonguesRight⟩ := d_areTonguesRight
  have C_areTonguesRight := ok_areTonguesRight (P := P) (w := w) (base := base) (CR := CR) (CD := CD) (CG := CG) (CL := CL) (CS := CS) (CC := CC) (CT := CT) (CBadWord := CBadWord) (CBadStep := CBadStep) (CTooMany := CTooMany) (CNoTongue := CNoTongue) (P0 := P0) F_areTonguesRight b_areTonguesRight T CX_Tongue CX_Script CD_Script CD_replaceStep EO_Tongue EO_Script A0 AL AS AC FL FS FC FG C_pick C_firstStep
  exact ok_law F T CD_Script EO_Script EA_Step A0 AL AS AC FL FS FC FG C_pen C_signs C_drawnSteps C_madeOrNot C_pick C_due C_refused C_lawGrowth C_areTonguesRight
end Vf

open PySem PySem.W PyProof.Rows
set_option maxRecDepth 100000 in
set_option maxHeartbeats 0 in
theorem PySem.Challenge.cw_textworkshop_k28_scripts_made_and_refuse_holds : PySem.Challenge.rw_textworkshop_k28_scripts_made_and_refuse.Holds := by
  w_on; o_law; k_head; (case hw => w_witness2)
  k_fill
  refine Vf.walk_tabG (l := PySem.Challenge.rw_textworkshop_k28_scripts_made_and_refuse) (n := 63) (x := "_law_script") rfl (by decide) rfl (fun w h Y => PySem.W.km_in_of Y) ?F
  case F =>
    intro w mg fa h TT KX G hmg
    obtain ⟨loose2, mean, mb, TT⟩ := TT
    refine' Vf.useIt (Vf.wc_mk (n := "WorkshopError") KX G ?a ?c ?k) (fun eW => ?_)
    (case a => k_is); (case c => k_is); (case k => k_is)
    refine' Vf.useIt (Vf.mt_mk KX ?n ?t) (fun eM => ?_)
    (case n => k_is); (case t => k_is)
    refine' Vf.useIt (Vf.cl_mk (n := "BadText") KX G eW eM ?a ?l ?s ?b ?y ?k ?g ?h ?d ?e ?m) (fun c_BadText => ?_)
    (case a => k_is); (case l => k_is); (case s => k_is); (case b => k_is); (case y => k_is); (case k => k_is); (case g => k_is); (case h => k_is); (case d => k_is); (case e => k_is); (case m => k_is)
    refine' Vf.useIt (Vf.kc_mk2 (st := Vf.i_BadText) c_BadText (f0 := "line") (f1 := "column") ?n0 ?n1 ?i ?t ?l ?c (fun _ _ _ _ _ _ us hl => match us, hl with | [_, _, _], _ => rfl)) (fun k_BadText => ?_)
    (case n0 => k_is); (case n1 => k_is); (case i => k_is); (case t => k_is); (case l => k_is); (case c => k_is)
    refine' Vf.useIt (Vf.cl_mk (n := "BadWord") KX G eW eM ?a ?l ?s ?b ?y ?k ?g ?h ?d ?e ?m) (fun c_BadWord => ?_)
    (case a => k_is); (case l => k_is); (case s => k_is); (case b => k_is); (case y => k_is); (case k => k_is); (case g => k_is); (case h => k_is); (case d => k_is); (case e => k_is); (case m => k_is)
    refine' Vf.useIt (Vf.kc_mk1 (st := Vf.i_BadWord) c_BadWord (f0 := "what") ?n0 ?i ?t ?l ?c (fun _ _ _ _ _ _ us hl => match us, hl with | [_, _], _ => rfl)) (fun k_BadWord => ?_)
    (case n0 => k_is); (case i => k_is); (case t => k_is); (case l => k_is); (case c => k_is)
    refine' Vf.useIt (Vf.cl_mk (n := "BadNumber") KX G eW eM ?a ?l ?s ?b ?y ?k ?g ?h ?d ?e ?m) (fun c_BadNumber => ?_)
    (case a => k_is); (case l => k_is); (case s => k_is); (case b => k_is); (case y => k_is); (case k => k_is); (case g => k_is); (case h => k_is); (case d => k_is); (case e => k_is); (case m => k_is)
    refine' Vf.useIt (Vf.kc_mk2 (st := Vf.i_BadNumber) c_BadNumber (f0 := "what") (f1 := "number") ?n0 ?n1 ?i ?t ?l ?c (fun _ _ _ _ _ _ us hl => match us, hl with | [_, _, _], _ => rfl)) (fun k_BadNumber => ?_)
    (case n0 => k_is); (case n1 => k_is); (case i => k_is); (case t => k_is); (case l => k_is); (case c => k_is)
    refine' Vf.useIt (Vf.cl_mk (n := "BadStep") KX G eW eM ?a ?l ?s ?b ?y ?k ?g ?h ?d ?e ?m) (fun c_BadStep => ?_)
    (case a => k_is); (case l => k_is); (case s => k_is); (case b => k_is); (case y => k_is); (case k => k_is); (case g => k_is); (case h => k_is); (case d => k_is); (case e => k_is); (case m => k_is)
    refine' Vf.useIt (Vf.kc_mk1 (st := Vf.i_BadStep) c_BadStep (f0 := "number") ?n0 ?i ?t ?l ?c (fun _ _ _ _ _ _ us hl => match us, hl with | [_, _], _ => rfl)) (fun k_BadStep => ?_)
    (case n0 => k_is); (case i => k_is); (case t => k_is); (case l => k_is); (case c => k_is)
    refine' Vf.useIt (Vf.cl_mk (n := "TooMany") KX G eW eM ?a ?l ?s ?b ?y ?k ?g ?h ?d ?e ?m) (fun c_TooMany => ?_)
    (case a => k_is); (case l => k_is); (case s => k_is); (case b => k_is); (case y => k_is); (case k => k_is); (case g => k_is); (case h => k_is); (case d => k_is); (case e => k_is); (case m => k_is)
    refine' Vf.useIt (Vf.kc_mk3 (st := Vf.i_TooMany) c_TooMany (f0 := "what") (f1 := "many") (f2 := "limit") ?n0 ?n1 ?n2 ?i ?t ?l ?c (fun _ _ _ _ _ _ us hl => match us, hl with | [_, _, _, _], _ => rfl)) (fun k_TooMany => ?_)
    (case n0 => k_is); (case n1 => k_is); (case n2 => k_is); (case i => k_is); (case t => k_is); (case l => k_is); (case c => k_is)
    refine' Vf.useIt (Vf.cl_mk (n := "NoTongue") KX G eW eM ?a ?l ?s ?b ?y ?k ?g ?h ?d ?e ?m) (fun c_NoTongue => ?_)
    (case a => k_is); (case l => k_is); (case s => k_is); (case b => k_is); (case y => k_is); (case k => k_is); (case g => k_is); (case h => k_is); (case d => k_is); (case e => k_is); (case m => k_is)
    refine' Vf.useIt (Vf.kc_mk1 (st := Vf.i_NoTongue) c_NoTongue (f0 := "number") ?n0 ?i ?t ?l ?c (fun _ _ _ _ _ _ us hl => match us, hl with | [_, _], _ => rfl)) (fun k_NoTongue => ?_)
    (case n0 => k_is); (case i => k_is); (case t => k_is); (case l => k_is); (case c => k_is)
    refine' Vf.useIt (Vf.xk_mk c_TooMany c_BadStep c_NoTongue c_BadWord ?e11 ?e21 ?e22 ?e31 ?e32 ?e33 ?e41 ?e42 ?e43 ?e44 ?tS ?tN ?tB) (fun XK => ?_)
    (case e11 => kernel_rfl); (case e21 => kernel_rfl); (case e22 => kernel_rfl); (case e31 => kernel_rfl); (case e32 => kernel_rfl); (case e33 => kernel_rfl); (case e41 => kernel_rfl); (case e42 => kernel_rfl); (case e43 => kernel_rfl); (case e44 => kernel_rfl); (case tS => kernel_rfl); (case tN => kernel_rfl); (case tB => kernel_rfl)
    refine' Vf.useIt (Vf.oc_mk (n := "LineTest") KX G eM ?a ?pg ?hd ?po ?sa ?e ?m ?mk ?i ?fi ?kp) (fun oL => ?_)
    (case a => k_is); (case pg => k_is); (case hd => k_is); (case po => k_is); (case sa => k_is); (case e => k_is); (case m => k_is); (case mk => k_is); (case i => k_is); (case fi => k_is); (case kp => k_is)
    refine' Vf.useIt (Vf.oc_mk (n := "Rule") KX G eM ?a ?pg ?hd ?po ?sa ?e ?m ?mk ?i ?fi ?kp) (fun oR => ?_)
    (case a => k_is); (case pg => k_is); (case hd => k_is); (case po => k_is); (case sa => k_is); (case e => k_is); (case m => k_is); (case mk => k_is); (case i => k_is); (case fi => k_is); (case kp => k_is)
    refine' Vf.useIt (Vf.oc_mk (n := "Reader") KX G eM ?a ?pg ?hd ?po ?sa ?e ?m ?mk ?i ?fi ?kp) (fun oD => ?_)
    (case a => k_is); (case pg => k_is); (case hd => k_is); (case po => k_is); (case sa => k_is); (case e => k_is); (case m => k_is); (case mk => k_is); (case i => k_is); (case fi => k_is); (case kp => k_is)
    refine' Vf.useIt (Vf.oc_mk (n := "Tongue") KX G eM ?a ?pg ?hd ?po ?sa ?e ?m ?mk ?i ?fi ?kp) (fun oG => ?_)
    (case a => k_is); (case pg => k_is); (case hd => k_is); (case po => k_is); (case sa => k_is); (case e => k_is); (case m => k_is); (case mk => k_is); (case i => k_is); (case fi => k_is); (case kp => k_is)
    refine' Vf.useIt (Vf.oc_mk (n := "Step") KX G eM ?a ?pg ?hd ?po ?sa ?e ?m ?mk ?i ?fi ?kp) (fun oS => ?_)
    (case a => k_is); (case pg => k_is); (case hd => k_is); (case po => k_is); (case sa => k_is); (case e => k_is); (case m => k_is); (case mk => k_is); (case i => k_is); (case fi => k_is); (case kp => k_is)
    refine' Vf.useIt (Vf.oc_mk (n := "Script") KX G eM ?a ?pg ?hd ?po ?sa ?e ?m ?mk ?i ?fi ?kp) (fun oC => ?_)
    (case a => k_is); (case pg => k_is); (case hd => k_is); (case po => k_is); (case sa => k_is); (case e => k_is); (case m => k_is); (case mk => k_is); (case i => k_is); (case fi => k_is); (case kp => k_is)
    refine' Vf.useIt (Vf.ca_mk oR oD oG ?r1 ?r2 ?r3 ?r4 ?r5 ?r6 ?r7 ?d1 ?d2 ?g1 ?g2 ?g3 ?g4) (fun A0 => ?_)
    (case r1 => k_is); (case r2 => k_is); (case r3 => k_is); (case r4 => k_is); (case r5 => k_is); (case r6 => k_is); (case r7 => k_is); (case d1 => k_is); (case d2 => k_is); (case g1 => k_is); (case g2 => k_is); (case g3 => k_is); (case g4 => k_is)
    refine' Vf.useIt (Vf.cal_mk oL ?q1 ?q2 ?q3 ?q4 ?q5) (fun AL => ?_)
    (case q1 => k_is); (case q2 => k_is); (case q3 => k_is); (case q4 => k_is); (case q5 => k_is)
    refine' Vf.useIt (Vf.cas_mk oS ?q1 ?q2 ?q3 ?q4 ?q5 ?q6 ?q7) (fun AS => ?_)
    (case q1 => k_is); (case q2 => k_is); (case q3 => k_is); (case q4 => k_is); (case q5 => k_is); (case q6 => k_is); (case q7 => k_is)
    refine' Vf.useIt (Vf.cac_mk oC ?q1 ?q2 ?q3) (fun AC => ?_)
    (case q1 => k_is); (case q2 => k_is); (case q3 => k_is)
    refine' Vf.useIt (Vf.fgn_mk oL ?k1 ?k2 ?k3 ?k4 ?s1 ?s2 ?s3 ?s4 ?r) (fun FL => ?_)
    (case k1 => kernel_rfl); (case k2 => kernel_rfl); (case k3 => kernel_rfl); (case k4 => kernel_rfl); (case s1 => kernel_rfl); (case s2 => kernel_rfl); (case s3 => kernel_rfl); (case s4 => kernel_rfl); (case r => kernel_rfl)
    refine' Vf.useIt (Vf.fgn_mk oS ?k1 ?k2 ?k3 ?k4 ?s1 ?s2 ?s3 ?s4 ?r) (fun FS => ?_)
    (case k1 => kernel_rfl); (case k2 => kernel_rfl); (case k3 => kernel_rfl); (case k4 => kernel_rfl); (case s1 => kernel_rfl); (case s2 => kernel_rfl); (case s3 => kernel_rfl); (case s4 => kernel_rfl); (case r => kernel_rfl)
    refine' Vf.useIt (Vf.fgn_mk oC ?k1 ?k2 ?k3 ?k4 ?s1 ?s2 ?s3 ?s4 ?r) (fun FC => ?_)
    (case k1 => kernel_rfl); (case k2 => kernel_rfl); (case k3 => kernel_rfl); (case k4 => kernel_rfl); (case s1 => kernel_rfl); (case s2 => kernel_rfl); (case s3 => kernel_rfl); (case s4 => kernel_rfl); (case r => kernel_rfl)
    refine' Vf.useIt (Vf.fgn_mk oG ?k1 ?k2 ?k3 ?k4 ?s1 ?s2 ?s3 ?s4 ?r) (fun FG => ?_)
    (case k1 => kernel_rfl); (case k2 => kernel_rfl); (case k3 => kernel_rfl); (case k4 => kernel_rfl); (case s1 => kernel_rfl); (case s2 => kernel_rfl); (case s3 => kernel_rfl); (case s4 => kernel_rfl); (case r => kernel_rfl)
    refine' Vf.useIt (Vf.eqc_mk oL ?l ?no ?e1 ?e2 ?e3 ?fe) (fun eL => ?_)
    (case l => k_is); (case no => first | k_is | kernel_rfl | rfl); (case e1 => k_is); (case e2 => k_is); (case e3 => k_is); (case fe => k_is)
    refine' Vf.useIt (Vf.eqc_mk oG ?l ?no ?e1 ?e2 ?e3 ?fe) (fun eG => ?_)
    (case l => k_is); (case no => first | k_is | kernel_rfl | rfl); (case e1 => k_is); (case e2 => k_is); (case e3 => k_is); (case fe => k_is)
    refine' Vf.useIt (Vf.eqc_mk oS ?l ?no ?e1 ?e2 ?e3 ?fe) (fun eS => ?_)
    (case l => k_is); (case no => first | k_is | kernel_rfl | rfl); (case e1 => k_is); (case e2 => k_is); (case e3 => k_is); (case fe => k_is)
    refine' Vf.useIt (Vf.eqc_mk oC ?l ?no ?e1 ?e2 ?e3 ?fe) (fun eC => ?_)
    (case l => k_is); (case no => first | k_is | kernel_rfl | rfl); (case e1 => k_is); (case e2 => k_is); (case e3 => k_is); (case fe => k_is)
    refine' Vf.useIt (Vf.fnm_mk (m := "__init__") (st := Vf.s_LineTest_init) (ps := ["self", "word", "argument", "parts", "negated"]) oL.mI.init ?l ?c (fun _ _ _ _ _ _ us hl => match us, hl with | [_, _, _, _, _], _ => rfl)) (fun n_LineTest_init => ?_)
    (case l => k_is); (case c => k_is)
    refine' Vf.useIt (Vf.fnm_mk (m := "__init__") (st := Vf.s_Rule_init) (ps := ["self", "words"]) oR.mI.init ?l ?c (fun _ _ _ _ _ _ us hl => match us, hl with | [_, _], _ => rfl)) (fun n_Rule_init => ?_)
    (case l => k_is); (case c => k_is)
    refine' Vf.useIt (Vf.fnm_mk (m := "__init__") (st := Vf.s_Reader_init) (ps := ["self", "rules"]) oD.mI.init ?l ?c (fun _ _ _ _ _ _ us hl => match us, hl with | [_, _], _ => rfl)) (fun n_Reader_init => ?_)
    (case l => k_is); (case c => k_is)
    refine' Vf.useIt (Vf.fnm_mk (m := "__init__") (st := Vf.s_Tongue_init) (ps := ["self", "text"]) oG.mI.init ?l ?c (fun _ _ _ _ _ _ us hl => match us, hl with | [_, _], _ => rfl)) (fun n_Tongue_init => ?_)
    (case l => k_is); (case c => k_is)
    refine' Vf.useIt (Vf.fnm_mk (m := "__eq__") (st := Vf.s_LineTest_eq) (ps := ["self", "other"]) eL.hs ?l ?c (fun _ _ _ _ _ _ us hl => match us, hl with | [_, _], _ => rfl)) (fun n_LineTest_eq => ?_)
    (case l => k_is); (case c => k_is)
    refine' Vf.useIt (Vf.fnm_mk (m := "__eq__") (st := Vf.s_Tongue_eq) (ps := ["self", "other"]) eG.hs ?l ?c (fun _ _ _ _ _ _ us hl => match us, hl with | [_, _], _ => rfl)) (fun n_Tongue_eq => ?_)
    (case l => k_is); (case c => k_is)
    refine' Vf.useIt (Vf.fnm_mk (m := "__eq__") (st := Vf.s_Step_eq) (ps := ["self", "other"]) eS.hs ?l ?c (fun _ _ _ _ _ _ us hl => match us, hl with | [_, _], _ => rfl)) (fun n_Step_eq => ?_)
    (case l => k_is); (case c => k_is)
    refine' Vf.useIt (Vf.fnm_mk (m := "__eq__") (st := Vf.s_Script_eq) (ps := ["self", "other"]) eC.hs ?l ?c (fun _ _ _ _ _ _ us hl => match us, hl with | [_, _], _ => rfl)) (fun n_Script_eq => ?_)
    (case l => k_is); (case c => k_is)
    refine' Vf.useIt (Vf.st0_mk oS.mI.init ?l ?lT ?c ?k) (fun n_Step => ?_)
    (case l => k_is); (case lT => k_is); (case c => k_is); (case k => k_is)
    refine' Vf.useIt (Vf.md_mk (m := "__init__") (st := Vf.s_Script_init) (ps := ["self", "steps", "tongue"]) oC.mI.init ?l ?lT ?c ?k rfl (fun _ _ _ _ _ _ _ us its hl h1 => match us, its, hl, h1 with | [_, _, _], [_], _, _ => ⟨_, rfl, rfl⟩) (fun _ _ _ _ _ _ _ us its hl h1 => match us, its, hl, h1 with | [_, _], [_], _, _ => ⟨_, rfl, rfl⟩)) (fun n_Script => ?_)
    (case l => k_is); (case lT => k_is); (case c => k_is); (case k => k_is)
    refine' Vf.useIt (Vf.dn_mk (x := "is_kind") (st := Vf.s_isKind) (ps := ["value"]) KX G ?a ?l ?c ?k (fun _ _ _ _ _ _ us hl => match us, hl with | [_], _ => rfl)) (fun d_isKind => ?_)
    (case a => k_is); (case l => k_is); (case c => k_is); (case k => k_is)
    refine' Vf.useIt (Vf.dn_mk (x := "is_text") (st := Vf.s_isText) (ps := ["value"]) KX G ?a ?l ?c ?k (fun _ _ _ _ _ _ us hl => match us, hl with | [_], _ => rfl)) (fun d_isText => ?_)
    (case a => k_is); (case l => k_is); (case c => k_is); (case k => k_is)
    refine' Vf.useIt (Vf.dn_mk (x := "is_word") (st := Vf.s_isWord) (ps := ["value"]) KX G ?a ?l ?c ?k (fun _ _ _ _ _ _ us hl => match us, hl with | [_], _ => rfl)) (fun d_isWord => ?_)
    (case a => k_is); (case l => k_is); (case c => k_is); (case k => k_is)
    refine' Vf.useIt (Vf.dn_mk (x := "is_patch") (st := Vf.s_isPatch) (ps := ["value"]) KX G ?a ?l ?c ?k (fun _ _ _ _ _ _ us hl => match us, hl with | [_], _ => rfl)) (fun d_isPatch => ?_)
    (case a => k_is); (case l => k_is); (case c => k_is); (case k => k_is)
    refine' Vf.useIt (Vf.dn_mk (x := "is_whole") (st := Vf.s_isWhole) (ps := ["value"]) KX G ?a ?l ?c ?k (fun _ _ _ _ _ _ us hl => match us, hl with | [_], _ => rfl)) (fun d_isWhole => ?_)
    (case a => k_is); (case l => k_is); (case c => k_is); (case k => k_is)
    refine' Vf.useIt (Vf.dn_mk (x := "is_line_word") (st := Vf.s_isLineWord) (ps := ["value"]) KX G ?a ?l ?c ?k (fun _ _ _ _ _ _ us hl => match us, hl with | [_], _ => rfl)) (fun d_isLineWord => ?_)
    (case a => k_is); (case l => k_is); (case c => k_is); (case k => k_is)
    refine' Vf.useIt (Vf.dn_mk (x := "is_within") (st := Vf.s_isWithin) (ps := ["value", "bounds"]) KX G ?a ?l ?c ?k (fun _ _ _ _ _ _ us hl => match us, hl with | [_, _], _ => rfl)) (fun d_isWithin => ?_)
    (case a => k_is); (case l => k_is); (case c => k_is); (case k => k_is)
    refine' Vf.useIt (Vf.dn_mk (x := "is_plain") (st := Vf.s_isPlain) (ps := ["value"]) KX G ?a ?l ?c ?k (fun _ _ _ _ _ _ us hl => match us, hl with | [_], _ => rfl)) (fun d_isPlain => ?_)
    (case a => k_is); (case l => k_is); (case c => k_is); (case k => k_is)
    refine' Vf.useIt (Vf.dn_mkD (x := "plain_test") (st := Vf.s_plainTest) (ps := ["word", "argument"]) KX G ?a ?l ?lT ?c ?k (fun _ _ _ _ _ _ _ us its hl h1 => match us, its, hl, h1 with | [_, _], [_], _, _ => ⟨_, rfl, rfl⟩)) (fun d_plainTest => ?_)
    (case a => k_is); (case l => k_is); (case lT => k_is); (case c => k_is); (case k => k_is)
    refine' Vf.useIt (Vf.dn_mk (x := "range_test") (st := Vf.s_rangeTest) (ps := ["first", "second"]) KX G ?a ?l ?c ?k (fun _ _ _ _ _ _ us hl => match us, hl with | [_, _], _ => rfl)) (fun d_rangeTest => ?_)
    (case a => k_is); (case l => k_is); (case c => k_is); (case k => k_is)
    refine' Vf.useIt (Vf.dn_mk (x := "other_test") (st := Vf.s_otherTest) (ps := ["test"]) KX G ?a ?l ?c ?k (fun _ _ _ _ _ _ us hl => match us, hl with | [_], _ => rfl)) (fun d_otherTest => ?_)
    (case a => k_is); (case l => k_is); (case c => k_is); (case k => k_is)
    refine' Vf.useIt (Vf.dn_mk (x := "is_mark") (st := Vf.s_isMark) (ps := ["word"]) KX G ?a ?l ?c ?k (fun _ _ _ _ _ _ us hl => match us, hl with | [_], _ => rfl)) (fun d_isMark => ?_)
    (case a => k_is); (case l => k_is); (case c => k_is); (case k => k_is)
    refine' Vf.useIt (Vf.dn_mk (x := "option_can_stand") (st := Vf.s_optionCanStand) (ps := ["ahead", "word"]) KX G ?a ?l ?c ?k (fun _ _ _ _ _ _ us hl => match us, hl with | [_, _], _ => rfl)) (fun d_optionCanStand => ?_)
    (case a => k_is); (case l => k_is); (case c => k_is); (case k => k_is)
    refine' Vf.useIt (Vf.dn_mk (x := "can_stand") (st := Vf.s_canStand) (ps := ["ahead", "word", "openers"]) KX G ?a ?l ?c ?k (fun _ _ _ _ _ _ us hl => match us, hl with | [_, _, _], _ => rfl)) (fun d_canStand => ?_)
    (case a => k_is); (case l => k_is); (case c => k_is); (case k => k_is)
    refine' Vf.useIt (Vf.dn_mk (x := "wrong_column") (st := Vf.s_wrongColumn) (ps := ["line", "openers"]) KX G ?a ?l ?c ?k (fun _ _ _ _ _ _ us hl => match us, hl with | [_, _], _ => rfl)) (fun d_wrongColumn => ?_)
    (case a => k_is); (case l => k_is); (case c => k_is); (case k => k_is)
    refine' Vf.useIt (Vf.dn_mk (x := "read_rules") (st := Vf.s_readRules) (ps := ["text"]) KX G ?a ?l ?c ?k (fun _ _ _ _ _ _ us hl => match us, hl with | [_], _ => rfl)) (fun d_readRules => ?_)
    (case a => k_is); (case l => k_is); (case c => k_is); (case k => k_is)
    refine' Vf.useIt (Vf.dn_mk (x := "rule_weight") (st := Vf.s_ruleWeight) (ps := ["rule"]) KX G ?a ?l ?c ?k (fun _ _ _ _ _ _ us hl => match us, hl with | [_], _ => rfl)) (fun d_ruleWeight => ?_)
    (case a => k_is); (case l => k_is); (case c => k_is); (case k => k_is)
    refine' Vf.useIt (Vf.dn_mk (x := "piece_marks") (st := Vf.s_pieceMarks) (ps := ["rule", "number", "depth"]) KX G ?a ?l ?c ?k (fun _ _ _ _ _ _ us hl => match us, hl with | [_, _, _], _ => rfl)) (fun d_pieceMarks => ?_)
    (case a => k_is); (case l => k_is); (case c => k_is); (case k => k_is)
    refine' Vf.useIt (Vf.dn_mk (x := "check_exchange") (st := Vf.s_checkExchange) (ps := ["old", "new"]) KX G ?a ?l ?c ?k (fun _ _ _ _ _ _ us hl => match us, hl with | [_, _], _ => rfl)) (fun d_checkExchange => ?_)
    (case a => k_is); (case l => k_is); (case c => k_is); (case k => k_is)
    refine' Vf.useIt (Vf.dn_mk (x := "check_test") (st := Vf.s_checkTest) (ps := ["test"]) KX G ?a ?l ?c ?k (fun _ _ _ _ _ _ us hl => match us, hl with | [_], _ => rfl)) (fun d_checkTest => ?_)
    (case a => k_is); (case l => k_is); (case c => k_is); (case k => k_is)
    refine' Vf.useIt (Vf.dn_mk (x := "first_step") (st := Vf.s_firstStep) (ps := ["old", "new"]) KX G ?a ?l ?c ?k (fun _ _ _ _ _ _ us hl => match us, hl with | [_, _], _ => rfl)) (fun d_firstStep => ?_)
    (case a => k_is); (case l => k_is); (case c => k_is); (case k => k_is)
    refine' Vf.useIt (Vf.dn_mk (x := "once_step") (st := Vf.s_onceStep) (ps := ["old", "new"]) KX G ?a ?l ?c ?k (fun _ _ _ _ _ _ us hl => match us, hl with | [_, _], _ => rfl)) (fun d_onceStep => ?_)
    (case a => k_is); (case l => k_is); (case c => k_is); (case k => k_is)
    refine' Vf.useIt (Vf.dn_mk (x := "drop_step") (st := Vf.s_dropStep) (ps := ["test"]) KX G ?a ?l ?c ?k (fun _ _ _ _ _ _ us hl => match us, hl with | [_], _ => rfl)) (fun d_dropStep => ?_)
    (case a => k_is); (case l => k_is); (case c => k_is); (case k => k_is)
    refine' Vf.useIt (Vf.dn_mk (x := "keep_step") (st := Vf.s_keepStep) (ps := ["test"]) KX G ?a ?l ?c ?k (fun _ _ _ _ _ _ us hl => match us, hl with | [_], _ => rfl)) (fun d_keepStep => ?_)
    (case a => k_is); (case l => k_is); (case c => k_is); (case k => k_is)
    refine' Vf.useIt (Vf.dn_mk (x := "put_step") (st := Vf.s_putStep) (ps := ["where", "new", "test"]) KX G ?a ?l ?c ?k (fun _ _ _ _ _ _ us hl => match us, hl with | [_, _, _], _ => rfl)) (fun d_putStep => ?_)
    (case a => k_is); (case l => k_is); (case c => k_is); (case k => k_is)
    refine' Vf.useIt (Vf.dn_mk (x := "strip_step") (st := Vf.s_stripStep) (ps := ["old", "test"]) KX G ?a ?l ?c ?k (fun _ _ _ _ _ _ us hl => match us, hl with | [_, _], _ => rfl)) (fun d_stripStep => ?_)
    (case a => k_is); (case l => k_is); (case c => k_is); (case k => k_is)
    refine' Vf.useIt (Vf.dn_mk (x := "growth_of") (st := Vf.s_growthOf) (ps := ["step"]) KX G ?a ?l ?c ?k (fun _ _ _ _ _ _ us hl => match us, hl with | [_], _ => rfl)) (fun d_growthOf => ?_)
    (case a => k_is); (case l => k_is); (case c => k_is); (case k => k_is)
    refine' Vf.useIt (Vf.dn_mk (x := "check_steps") (st := Vf.s_checkSteps) (ps := ["steps", "tongue"]) KX G ?a ?l ?c ?k (fun _ _ _ _ _ _ us hl => match us, hl with | [_, _], _ => rfl)) (fun d_checkSteps => ?_)
    (case a => k_is); (case l => k_is); (case c => k_is); (case k => k_is)
    refine' Vf.useIt (Vf.dn_mk (x := "_law_pen") (st := Vf.s_pen) (ps := ["_law_script"]) KX G ?a ?l ?c ?k (fun _ _ _ _ _ _ us hl => match us, hl with | [_], _ => rfl)) (fun d_pen => ?_)
    (case a => k_is); (case l => k_is); (case c => k_is); (case k => k_is)
    refine' Vf.useIt (Vf.dn_mk (x := "_law_draw") (st := Vf.s_draw) (ps := ["_law_pen_here", "_law_many"]) KX G ?a ?l ?c ?k (fun _ _ _ _ _ _ us hl => match us, hl with | [_, _], _ => rfl)) (fun d_draw => ?_)
    (case a => k_is); (case l => k_is); (case c => k_is); (case k => k_is)
    refine' Vf.useIt (Vf.dn_mk (x := "_law_pick") (st := Vf.s_pick) (ps := ["_law_pen_here", "_law_some"]) KX G ?a ?l ?c ?k (fun _ _ _ _ _ _ us hl => match us, hl with | [_, _], _ => rfl)) (fun d_pick => ?_)
    (case a => k_is); (case l => k_is); (case c => k_is); (case k => k_is)
    refine' Vf.useIt (Vf.dn_mk (x := "_law_signs") (st := Vf.s_signs) (ps := ["_law_pen_here"]) KX G ?a ?l ?c ?k (fun _ _ _ _ _ _ us hl => match us, hl with | [_], _ => rfl)) (fun d_signs => ?_)
    (case a => k_is); (case l => k_is); (case c => k_is); (case k => k_is)
    refine' Vf.useIt (Vf.dn_mk (x := "_law_word") (st := Vf.s_lawWord) (ps := ["_law_pen_here", "_law_signs_here", "_law_most"]) KX G ?a ?l ?c ?k (fun _ _ _ _ _ _ us hl => match us, hl with | [_, _, _], _ => rfl)) (fun d_lawWord => ?_)
    (case a => k_is); (case l => k_is); (case c => k_is); (case k => k_is)
    refine' Vf.useIt (Vf.dn_mk (x := "_law_patch") (st := Vf.s_patch) (ps := ["_law_pen_here", "_law_signs_here", "_law_most"]) KX G ?a ?l ?c ?k (fun _ _ _ _ _ _ us hl => match us, hl with | [_, _, _], _ => rfl)) (fun d_patch => ?_)
    (case a => k_is); (case l => k_is); (case c => k_is); (case k => k_is)
    refine' Vf.useIt (Vf.dn_mk (x := "_law_plain_test") (st := Vf.s_lawPlainTest) (ps := ["_law_pen_here", "_law_signs_here"]) KX G ?a ?l ?c ?k (fun _ _ _ _ _ _ us hl => match us, hl with | [_, _], _ => rfl)) (fun d_lawPlainTest => ?_)
    (case a => k_is); (case l => k_is); (case c => k_is); (case k => k_is)
    refine' Vf.useIt (Vf.dn_mk (x := "_law_test") (st := Vf.s_lawTest) (ps := ["_law_pen_here", "_law_signs_here"]) KX G ?a ?l ?c ?k (fun _ _ _ _ _ _ us hl => match us, hl with | [_, _], _ => rfl)) (fun d_lawTest => ?_)
    (case a => k_is); (case l => k_is); (case c => k_is); (case k => k_is)
    refine' Vf.useIt (Vf.dn_mk (x := "_law_test_made") (st := Vf.s_testMade) (ps := ["_law_check"]) KX G ?a ?l ?c ?k (fun _ _ _ _ _ _ us hl => match us, hl with | [_], _ => rfl)) (fun d_testMade => ?_)
    (case a => k_is); (case l => k_is); (case c => k_is); (case k => k_is)
    refine' Vf.useIt (Vf.dn_mk (x := "_law_step") (st := Vf.s_lawStep) (ps := ["_law_pen_here", "_law_signs_here"]) KX G ?a ?l ?c ?k (fun _ _ _ _ _ _ us hl => match us, hl with | [_, _], _ => rfl)) (fun d_lawStep => ?_)
    (case a => k_is); (case l => k_is); (case c => k_is); (case k => k_is)
    refine' Vf.useIt (Vf.dn_mk (x := "_law_growth") (st := Vf.s_lawGrowth) (ps := ["_law_steps"]) KX G ?a ?l ?c ?k (fun _ _ _ _ _ _ us hl => match us, hl with | [_], _ => rfl)) (fun d_lawGrowth => ?_)
    (case a => k_is); (case l => k_is); (case c => k_is); (case k => k_is)
    refine' Vf.useIt (Vf.dn_mk (x := "_law_step_made") (st := Vf.s_stepMade) (ps := ["_law_step_here"]) KX G ?a ?l ?c ?k (fun _ _ _ _ _ _ us hl => match us, hl with | [_], _ => rfl)) (fun d_stepMade => ?_)
    (case a => k_is); (case l => k_is); (case c => k_is); (case k => k_is)
    refine' Vf.useIt (Vf.dn_mk (x := "_law_refused") (st := Vf.s_refused) (ps := ["_law_steps", "_law_reading"]) KX G ?a ?l ?c ?k (fun _ _ _ _ _ _ us hl => match us, hl with | [_, _], _ => rfl)) (fun d_refused => ?_)
    (case a => k_is); (case l => k_is); (case c => k_is); (case k => k_is)
    refine' Vf.useIt (Vf.dn_mk (x := "_law_drawn_steps") (st := Vf.s_drawnSteps) (ps := ["_law_pen_here", "_law_signs_here"]) KX G ?a ?l ?c ?k (fun _ _ _ _ _ _ us hl => match us, hl with | [_, _], _ => rfl)) (fun d_drawnSteps => ?_)
    (case a => k_is); (case l => k_is); (case c => k_is); (case k => k_is)
    refine' Vf.useIt (Vf.dn_mk (x := "_law_made_or_not") (st := Vf.s_madeOrNot) (ps := ["_law_step_here"]) KX G ?a ?l ?c ?k (fun _ _ _ _ _ _ us hl => match us, hl with | [_], _ => rfl)) (fun d_madeOrNot => ?_)
    (case a => k_is); (case l => k_is); (case c => k_is); (case k => k_is)
    refine' Vf.useIt (Vf.dn_mk (x := "_law_due") (st := Vf.s_due) (ps := ["_law_steps", "_law_reading"]) KX G ?a ?l ?c ?k (fun _ _ _ _ _ _ us hl => match us, hl with | [_, _], _ => rfl)) (fun d_due => ?_)
    (case a => k_is); (case l => k_is); (case c => k_is); (case k => k_is)
    refine' Vf.useIt (Vf.dn_mk (x := "_law_are_tongues_right") (st := Vf.s_areTonguesRight) (ps := ["_law_pen_here"]) KX G ?a ?l ?c ?k (fun _ _ _ _ _ _ us hl => match us, hl with | [_], _ => rfl)) (fun d_areTonguesRight => ?_)
    (case a => k_is); (case l => k_is); (case c => k_is); (case k => k_is)
    refine' Vf.useIt (Vf.dd_mk (x := "replace_step") (st := Vf.s_replaceStep) (ps := ["old", "new", "kind", "test"]) KX G ?a ?l ?lT ?c ?k rfl (fun _ _ _ _ _ _ _ us its hl h1 => match us, its, hl, h1 with | [_, _, _, _], [_, _], _, _ => ⟨_, rfl, rfl⟩) (fun _ _ _ _ _ _ _ us its hl h1 => match us, its, hl, h1 with | [_, _, _], [_, _], _, _ => ⟨_, rfl, rfl⟩)) (fun d_replaceStep => ?_)
    (case a => k_is); (case l => k_is); (case lT => k_is); (case c => k_is); (case k => k_is)
    refine' Vf.useIt (Vf.fc_mk (x := "longest_first") (st := Vf.s_longestFirst) (ps := ["marks"]) KX G ?a ?l ?c ?k (fun _ _ _ _ _ _ us hl => match us, hl with | [_], _ => rfl)) (fun nA => ?_)
    (case a => k_is); (case l => k_is); (case c => k_is); (case k => k_is)
    refine' Vf.useIt (Vf.tab_mk (x := "longest_first") KX ?a ?l ?fdc ?l2 ?vs11) (fun tab => ?_)
    (case a => k_is); (case l => k_is); (case fdc => rfl); (case l2 => k_is); (case vs11 => rfl)
    have tb := PySem.W.tab_of (x := "longest_first") TT KX rfl tab
    refine' Vf.useT (w := w) KX ⟨PySem.W.mg_none_of KX G ?z_str, PySem.W.mg_none_of KX G ?z_isinstance, PySem.W.mg_none_of KX G ?z_all, PySem.W.mg_none_of KX G ?z_len, PySem.W.mg_none_of KX G ?z_bool, PySem.W.mg_none_of KX G ?z_int, PySem.W.mg_none_of KX G ?z_enumerate, PySem.W.mg_none_of KX G ?z_tuple, PySem.W.mg_none_of KX G ?z_any, PySem.W.mg_none_of KX G ?z_max, PySem.W.mg_none_of KX G ?z_range, PySem.W.mg_none_of KX G ?z_sorted, PySem.W.mg_none_of KX G ?z_sum, PySem.W.mg_none_of KX G ?z_list, Vf.cst_kd KX G ?a_KIND_LETTERS ?l_KIND_LETTERS ?k_KIND_LETTERS ?w_KIND_LETTERS ?f_KIND_LETTERS, Vf.cst_str KX G ?a_SIGNS ?e_SIGNS, Vf.cst_int KX G ?a_LONGEST_WORD, Vf.cst_tup KX G ?a_WORD_TESTS ?l_WORD_TESTS ?v_WORD_TESTS ?s_WORD_TESTS, Vf.cst_tup KX G ?a_NUMBER_TESTS ?l_NUMBER_TESTS ?v_NUMBER_TESTS ?s_NUMBER_TESTS, Vf.cst_tup KX G ?a_BARE_TESTS ?l_BARE_TESTS ?v_BARE_TESTS ?s_BARE_TESTS, Vf.cst_bounds KX G ?a_b ?l_b ?k_b ?w_b ?la_b ?lb_b, Vf.cst_int KX G ?a_MOST_RULES, Vf.cst_int KX G ?a_LONGEST_MARK, Vf.cst_str KX G ?a_MARK_SIGNS ?e_MARK_SIGNS, Vf.cst_tup KX G ?a_KINDS ?l_KINDS ?v_KINDS ?s_KINDS, Vf.cst_tup KX G ?a_DEPTHS ?l_DEPTHS ?v_DEPTHS ?s_DEPTHS, Vf.cst_opt KX G ?a_OPTIONS ?l_OPTIONS ?v_OPTIONS ?s_OPTIONS, Vf.cst_tup KX G ?a_CODE ?l_CODE ?v_CODE ?s_CODE, Vf.cst_int KX G ?a_MOST_STEPS, Vf.cst_int KX G ?a_MOST_GROWTH⟩ (fun T => ?_)
    (case z_str => k_is)
    (case z_isinstance => k_is)
    (case z_all => k_is)
    (case z_len => k_is)
    (case z_bool => k_is)
    (case z_int => k_is)
    (case z_enumerate => k_is)
    (case z_tuple => k_is)
    (case z_any => k_is)
    (case z_max => k_is)
    (case z_range => k_is)
    (case z_sorted => k_is)
    (case z_sum => k_is)
    (case z_list => k_is)
    (case a_KIND_LETTERS => k_is)
    (case l_KIND_LETTERS => k_is)
    (case k_KIND_LETTERS => exact ⟨⟨_, _, rfl, rfl⟩, ⟨⟨_, _, rfl, rfl⟩, ⟨⟨_, _, rfl, rfl⟩, trivial⟩⟩⟩)
    (case w_KIND_LETTERS => decide)
    (case f_KIND_LETTERS => exact Vf.kd3)
    (case a_SIGNS => k_is)
    (case e_SIGNS => decide +kernel)
    (case a_LONGEST_WORD => k_is)
    (case a_WORD_TESTS => k_is)
    (case l_WORD_TESTS => k_is)
    (case v_WORD_TESTS => exact .cons ⟨_, rfl⟩ (.cons ⟨_, rfl⟩ (.cons ⟨_, rfl⟩ (.cons ⟨_, rfl⟩ (.nil)))))
    (case s_WORD_TESTS => decide)
    (case a_NUMBER_TESTS => k_is)
    (case l_NUMBER_TESTS => k_is)
    (case v_NUMBER_TESTS => exact .cons ⟨_, rfl⟩ (.cons ⟨_, rfl⟩ (.nil)))
    (case s_NUMBER_TESTS => decide)
    (case a_BARE_TESTS => k_is)
    (case l_BARE_TESTS => k_is)
    (case v_BARE_TESTS => exact .cons ⟨_, rfl⟩ (.cons ⟨_, rfl⟩ (.nil)))
    (case s_BARE_TESTS => decide)
    (case a_b => k_is)
    (case l_b => k_is)
    (case k_b => exact ⟨⟨_, _, rfl, rfl⟩, ⟨⟨_, _, rfl, rfl⟩, trivial⟩⟩)
    (case w_b => decide)
    (case la_b => k_is)
    (case lb_b => k_is)
    (case a_MOST_RULES => k_is)
    (case a_LONGEST_MARK => k_is)
    (case a_MARK_SIGNS => k_is)
    (case e_MARK_SIGNS => decide +kernel)
    (case a_KINDS => k_is)
    (case l_KINDS => k_is)
    (case v_KINDS => exact .cons ⟨_, rfl⟩ (.cons ⟨_, rfl⟩ (.nil)))
    (case s_KINDS => decide)
    (case a_DEPTHS => k_is)
    (case l_DEPTHS => k_is)
    (case v_DEPTHS => exact .cons ⟨_, rfl⟩ (.cons ⟨_, rfl⟩ (.cons ⟨_, rfl⟩ (.nil))))
    (case s_DEPTHS => decide)
    (case a_OPTIONS => k_is)
    (case l_OPTIONS => k_is)
    (case v_OPTIONS => exact .cons ⟨_, rfl⟩ (.cons ⟨_, rfl⟩ (.cons ⟨_, rfl⟩ (.cons ⟨_, rfl⟩ (.nil)))))
    (case s_OPTIONS => decide)
    (case a_CODE => k_is)
    (case l_CODE => k_is)
    (case v_CODE => exact .cons ⟨_, rfl⟩ (.cons ⟨_, rfl⟩ (.cons ⟨_, rfl⟩ (.nil))))
    (case s_CODE => decide)
    (case a_MOST_STEPS => k_is)
    (case a_MOST_GROWTH => k_is)
    refine' Vf.law_end28 KX G hmg tb ?nP ?a ?l ?c ?k (fun base fd TB F => Vf.all_ok T d_isKind d_isText d_isWord d_isPatch d_isWhole d_isLineWord d_isWithin d_isPlain d_plainTest d_rangeTest d_otherTest d_isMark d_optionCanStand d_canStand d_wrongColumn d_readRules d_ruleWeight d_pieceMarks d_checkExchange d_checkTest d_firstStep d_onceStep d_dropStep d_keepStep d_putStep d_stripStep d_growthOf d_checkSteps d_pen d_draw d_pick d_signs d_lawWord d_patch d_lawPlainTest d_lawTest d_testMade d_lawStep d_lawGrowth d_stepMade d_refused d_drawnSteps d_madeOrNot d_due d_areTonguesRight d_replaceStep oL oR oD oG oS oC A0 AL AS AC FL FS FC FG eL eG eS eC n_LineTest_init n_Rule_init n_Reader_init n_Tongue_init n_LineTest_eq n_Tongue_eq n_Step_eq n_Script_eq n_Step n_Script k_BadText k_BadWord k_BadNumber k_BadStep k_TooMany k_NoTongue eW.1 XK nA base TB F)
    (case nP => kernel_rfl); (case a => k_is); (case l => k_is); (case c => k_is); (case k => k_is)
