package ledger_test

import (
	"fmt"
	"math/rand"
	"slices"
	"strings"
	"testing"

	"bushel/api"
	"bushel/ledger"
)

// P9.5: expressions, their texts, and what reads them.

// nested returns an expression with so many signs in front of it.
func nested(signs int, x api.Expr) api.Expr {
	for range signs {
		x = tree("-", x)
	}
	return x
}

// balanced returns an expression with so many leaves that is not deep.
func balanced(leaves int, leaf api.Expr) api.Expr {
	if leaves == 1 {
		return leaf
	}
	return tree("+", balanced(leaves/2, leaf), balanced(leaves-leaves/2, leaf))
}

// sized returns an expression whose text has so many bytes, at least 4000 and at most 4200.
func sized(bytes int) api.Expr {
	var x api.Expr
	digits := bytes - 6*3
	for i := range 7 {
		n := num(nines(digits/7 + max(0, digits%7-i)/max(1, digits%7-i)))
		if i == 0 {
			x = n
			continue
		}
		x = tree("+", x, n)
	}
	return x
}

// endless returns an expression with itself as an operand.
func endless(op string) api.Expr {
	x := tree(op, api.Expr{})
	x.Args[0] = x
	return x
}

// doubled returns an expression whose operands are twice the same one, again and again.
func doubled(times int) api.Expr {
	x := tree("mass")
	for range times {
		operands := []api.Expr{x, x}
		x = api.Expr{Op: "+", Args: operands}
	}
	return x
}

// badExpr is an expression with an error.
type badExpr struct {
	what string
	e    api.Errno
	x    api.Expr
}

// badExprs returns expressions with each error of CheckExpr.
func badExprs() []badExpr {
	bad, one, isTrue := api.Expr{Op: "x"}, num("1"), tree("=", num("1"), num("1"))
	valued := func(op string, operands ...api.Expr) api.Expr { return api.Expr{Op: op, Value: "1", Args: operands} }
	return []badExpr{
		{"257 expressions", api.ErrMany, nested(2, balanced(128, one))},
		{"257 expressions with other errors", api.ErrMany, nested(40, balanced(109, bad))},
		{"too many operands", api.ErrMany, tree("floor", slices.Repeat([]api.Expr{bad}, 256)...)},
		{"an expression in itself", api.ErrMany, endless("-")},
		{"an expression of no kind in itself", api.ErrMany, endless("")},
		{"twice the same operands", api.ErrMany, doubled(100)},
		{"a depth of 33", api.ErrLimit, nested(32, one)},
		{"a depth of 33 behind another operand", api.ErrLimit, tree("+", one, nested(31, one))},
		{"a depth of 33 with other errors", api.ErrLimit, tree("y", bad, nested(31, bad), bad)},
		{"256 expressions and too deep", api.ErrLimit, nested(57, balanced(100, one))},
		{"nothing", api.ErrKind, api.Expr{}},
		{"no Op", api.ErrKind, valued("", bad)},
		{"another Op", api.ErrKind, valued("Mass", bad)},
		{"an operator that is none", api.ErrKind, tree(">", one, num("-1"))},
		{"an operand of no kind", api.ErrKind, tree("+", one, bad)},
		{"an operand of no kind in front", api.ErrKind, tree("+", bad, num("-1"))},
		{"a later operand with an error of its own", api.ErrRange, tree("+", num("-1"), bad)},
		{"an operand of an operand", api.ErrShape, tree("+", tree("-", tree("min", one)), bad)},
		{"a number with an operand", api.ErrShape, valued("number", bad)},
		{"the mass with an operand", api.ErrShape, valued("mass", bad)},
		{"a sign without operand", api.ErrShape, tree("-")},
		{"a difference of three", api.ErrShape, tree("-", one, bad, one)},
		{"a sum of one", api.ErrShape, valued("+", bad)},
		{"a sum of three", api.ErrShape, tree("+", one, one, one)},
		{"a product of one", api.ErrShape, tree("*", one)},
		{"a quotient of none", api.ErrShape, tree("/")},
		{"the lesser one of one", api.ErrShape, tree("min", one)},
		{"the greater one of three", api.ErrShape, tree("max", one, one, one)},
		{"floor of two", api.ErrShape, tree("floor", one, one)},
		{"floor of nothing", api.ErrShape, tree("floor")},
		{"a comparison of one", api.ErrShape, tree("<", one)},
		{"a comparison of three", api.ErrShape, tree("=", one, one, one)},
		{"not of nothing", api.ErrShape, tree("not")},
		{"not of two", api.ErrShape, tree("not", isTrue, isTrue)},
		{"and of one", api.ErrShape, tree("and", isTrue)},
		{"or of three", api.ErrShape, tree("or", isTrue, isTrue, isTrue)},
		{"if without else", api.ErrShape, tree("if", isTrue, one)},
		{"if with four", api.ErrShape, tree("if", isTrue, one, one, one)},
		{"days with an operand", api.ErrShape, tree("days", one)},
		{"day with an operand", api.ErrShape, tree("day", one)},
		{"a number without a value", api.ErrForm, num("")},
		{"a number that is none", api.ErrForm, num("1.5")},
		{"a number that is not in lowest terms", api.ErrForm, num("2/4")},
		{"a number with a sign and 0", api.ErrForm, num("-0")},
		{"a number that is too long", api.ErrLarge, num(nines(601))},
		{"a negative number that is too long", api.ErrLarge, num("-1/" + nines(601))},
		{"a negative number", api.ErrRange, num("-1/2")},
		{"the value of a name", api.ErrForm, valued("days")},
		{"the value of an operator", api.ErrForm, valued("+", bad, bad)},
		{"the value of a condition", api.ErrForm, valued("not", one)},
		{"an error behind a wrong type", api.ErrKind, tree("+", isTrue, bad)},
		{"an error in front of a wrong type", api.ErrRange, tree("+", num("-1"), isTrue)},
		{"the sign of a condition", api.ErrType, tree("-", isTrue)},
		{"the floor of a condition", api.ErrType, tree("floor", isTrue)},
		{"a condition plus a number", api.ErrType, tree("+", isTrue, one)},
		{"a number minus a condition", api.ErrType, tree("-", one, isTrue)},
		{"a condition times a number", api.ErrType, tree("*", isTrue, one)},
		{"a number by a condition", api.ErrType, tree("/", one, isTrue)},
		{"the lesser condition", api.ErrType, tree("min", isTrue, isTrue)},
		{"the greater condition", api.ErrType, tree("max", one, isTrue)},
		{"a comparison of a condition", api.ErrType, tree("<", isTrue, one)},
		{"a comparison with a condition", api.ErrType, tree("<=", one, isTrue)},
		{"equal conditions", api.ErrType, tree("=", isTrue, isTrue)},
		{"not of a number", api.ErrType, tree("not", one)},
		{"a number and a condition", api.ErrType, tree("and", one, isTrue)},
		{"a condition or a number", api.ErrType, tree("or", isTrue, one)},
		{"if of a number", api.ErrType, tree("if", one, one, one)},
		{"then of a condition", api.ErrType, tree("if", isTrue, isTrue, one)},
		{"else of a condition", api.ErrType, tree("if", isTrue, one, isTrue)},
		{"a wrong type inside", api.ErrType, tree("+", one, tree("*", one, tree("-", tree("not", isTrue))))},
	}
}

func TestTypes(t *testing.T) {
	one, isTrue := num("1"), tree("=", num("1"), num("1"))
	for _, x := range []api.Expr{
		num("0"), num("5/3"), num(nines(600)), num("1/" + nines(600)), tree("mass"), tree("days"), tree("day"), tree("-", one), tree("-", one, one),
		tree("+", one, one), tree("*", one, one), tree("/", one, num("0")), tree("min", one, one), tree("max", one, one), tree("floor", one), tree("if", isTrue, one, one),
		nested(1, balanced(128, one)), nested(31, one), tree("+", nested(30, one), nested(30, one)), doubled(7), exampleExpr(),
	} {
		expect(t, outline(x), ok[string](t, outline(x))(ledger.CheckExpr(x)), "number")
	}
	for _, x := range []api.Expr{tree("<", one, one), tree("<=", one, one), isTrue, tree("not", isTrue), tree("and", isTrue, isTrue), tree("or", isTrue, isTrue)} {
		expect(t, outline(x), ok[string](t, outline(x))(ledger.CheckExpr(x)), "condition")
	}
}

// spoilt returns an expression of which one part has been changed.
func spoilt(r *rand.Rand, x api.Expr) api.Expr {
	if len(x.Args) > 0 && r.Intn(4) > 0 {
		x.Args = slices.Clone(x.Args)
		i := r.Intn(len(x.Args))
		x.Args[i] = spoilt(r, x.Args[i])
		return x
	}
	switch r.Intn(5) {
	case 0:
		x.Op = []string{"+", "-", "if", "mass", "not", "<", "number", "", "x"}[r.Intn(9)]
	case 1:
		x.Value = []api.Rat{"", "1", "-1", "2/4", "x", nines(601)}[r.Intn(6)]
	case 2:
		x.Args = append(slices.Clone(x.Args), num("1"))
	case 3:
		x = randomExpr(r, "nc"[r.Intn(2)], 2)
	case 4:
		x.Args = nil
	}
	return x
}

// TestCheckExprAgainstDefinition checks random expressions with up to three errors.
func TestCheckExprAgainstDefinition(t *testing.T) {
	r := rand.New(rand.NewSource(5))
	codes := map[api.Errno]int{}
	for range 6000 {
		x := randomExpr(r, "nc"[r.Intn(2)], 1+r.Intn(6))
		for range r.Intn(4) {
			x = spoilt(r, x)
		}
		want, e := exprError(x)
		codes[e]++
		kind, got := ledger.CheckExpr(x)
		expect(t, "CheckExpr of "+outline(x), []any{kind, got}, []any{want, e})
	}
	for _, e := range []api.Errno{api.OK, api.ErrKind, api.ErrShape, api.ErrForm, api.ErrRange, api.ErrLarge, api.ErrType} {
		if codes[e] < 10 {
			t.Errorf("the error %d was returned %d times", e, codes[e])
		}
	}
	for _, bad := range badExprs() {
		if bad.what == "an expression in itself" || bad.what == "an expression of no kind in itself" || bad.what == "twice the same operands" {
			continue
		}
		_, e := exprError(bad.x)
		expect(t, "the definition of "+bad.what, e, bad.e)
	}
}

// TestPrintAndRead checks texts that are printed in another way.
func TestPrintAndRead(t *testing.T) {
	for text, want := range map[string]string{
		"if 10 < days then mass*1/1000 else 0": exampleText,
		"1 - (2 - 3)":                          "1 - (2 - 3)",
		"(1 - 2) - 3":                          "1 - 2 - 3",
		"- (1 + 2)":                            "-(1 + 2)",
		"not (day = 3)":                        "not day = 3",
		"1-2+3":                                "1 - 2 + 3",
		"1-(2+3)":                              "1 - (2 + 3)",
		"1+(2+3)":                              "1 + (2 + 3)",
		"(1+2)+3":                              "1 + 2 + 3",
		"1*(2*3)":                              "1 * (2 * 3)",
		"(1*2)/3":                              "1 * 2 / 3",
		"1 / (2 / 3)":                          "1 / (2 / 3)",
		"1/2/3":                                "1/2 / 3",
		"1 /2/3":                               "1 / 2/3",
		"1/ 2":                                 "1 / 2",
		"1 /2":                                 "1 / 2",
		"(1)/2":                                "1 / 2",
		"1/(2)":                                "1 / 2",
		"mass/2":                               "mass / 2",
		"2/mass":                               "2 / mass",
		"1/2":                                  "1/2",
		"-1/2":                                 "-1/2",
		"- 1 / 2":                              "-1 / 2",
		"-(1 / 2)":                             "-(1 / 2)",
		"(-1)*2":                               "-1 * 2",
		"-(1*2)":                               "-(1 * 2)",
		"1*-2":                                 "1 * -2",
		"1--2":                                 "1 - -2",
		"1-(-2)":                               "1 - -2",
		"- - 1":                                "--1",
		"-(-(1))":                              "--1",
		"(1+2)*3":                              "(1 + 2) * 3",
		"1+(2*3)":                              "1 + 2 * 3",
		"((1+2))":                              "1 + 2",
		"  mass  ":                             "mass",
		"min(1,2)":                             "min(1, 2)",
		"max ( ( 1 ) , ( 2 + 3 ) )":            "max(1, 2 + 3)",
		"floor((mass))":                        "floor(mass)",
		"floor(-mass)":                         "floor(-mass)",
		"-floor(mass)":                         "-floor(mass)",
		"-min(1,2)*3":                          "-min(1, 2) * 3",
		"(1<2)and(2<3)":                        "1 < 2 and 2 < 3",
		"1<2 and(2<=3 and 3=4)":                "1 < 2 and (2 <= 3 and 3 = 4)",
		"(1<2 and 2<=3) and 3=4":               "1 < 2 and 2 <= 3 and 3 = 4",
		"1=2 or(2=3 or 3=4)":                   "1 = 2 or (2 = 3 or 3 = 4)",
		"(1=2 or 2=3) or 3=4":                  "1 = 2 or 2 = 3 or 3 = 4",
		"1=2 or(2=3 and 3=4)":                  "1 = 2 or 2 = 3 and 3 = 4",
		"(1=2 or 2=3)and 3=4":                  "(1 = 2 or 2 = 3) and 3 = 4",
		"1=2 and(2=3 or 3=4)":                  "1 = 2 and (2 = 3 or 3 = 4)",
		"not not 1=2":                          "not not 1 = 2",
		"not(not(1=2))":                        "not not 1 = 2",
		"not(1=2 and 2=3)":                     "not (1 = 2 and 2 = 3)",
		"not 1=2 and 2=3":                      "not 1 = 2 and 2 = 3",
		"(not 1=2) or not(2=3)":                "not 1 = 2 or not 2 = 3",
		"1+2<3*4":                              "1 + 2 < 3 * 4",
		"(1+2)<=(3-4)":                         "1 + 2 <= 3 - 4",
		"1<-2":                                 "1 < -2",
		"if 1<2 then if 2<3 then 1 else 2 else if 3<4 then 3 else 4": "if 1 < 2 then if 2 < 3 then 1 else 2 else if 3 < 4 then 3 else 4",
		"if(1<2)then(1)else(2+3)":                                    "if 1 < 2 then 1 else 2 + 3",
		"(if 1<2 then 1 else 2)+3":                                   "(if 1 < 2 then 1 else 2) + 3",
		"3+(if 1<2 then 1 else 2)":                                   "3 + (if 1 < 2 then 1 else 2)",
		"-(if 1<2 then 1 else 2)":                                    "-(if 1 < 2 then 1 else 2)",
		"3*(if 1<2 then 1 else 2)":                                   "3 * (if 1 < 2 then 1 else 2)",
		"(if 1<2 then 1 else 2)<3":                                   "(if 1 < 2 then 1 else 2) < 3",
		"3=(if 1<2 then 1 else 2)":                                   "3 = (if 1 < 2 then 1 else 2)",
		"min((if 1<2 then 1 else 2),(if 1<2 then 1 else 2))":         "min(if 1 < 2 then 1 else 2, if 1 < 2 then 1 else 2)",
		"floor((if 1<2 then 1 else 2))":                              "floor(if 1 < 2 then 1 else 2)",
		"if(not(1<2))then-1 else day":                                "if not 1 < 2 then -1 else day",
		"if (if 1<2 then 1 else 2)=1 then 1 else 2":                  "if (if 1 < 2 then 1 else 2) = 1 then 1 else 2",
	} {
		x, n, e := ledger.Read(text)
		expect(t, "Read of "+text, []any{n, e}, []any{0, api.OK})
		tokens, _ := lex(text)
		expectTree(t, "Read of "+text, x, treeOf(tokens))
		expect(t, "Print of "+text, ok[string](t, text)(ledger.Print(x)), want)
		expect(t, "the definition of Print of "+text, printed(x), want)
	}
}

// TestErrorsOfTexts checks the places of errors.
func TestErrorsOfTexts(t *testing.T) {
	for _, x := range []struct {
		text string
		at   int
	}{
		{"", 0}, {" ", 1}, {"   ", 3}, {"mass +", 6}, {"mass + ", 7}, {"mass & 1", 5}, {"2/4", 0}, {"1 + 2/4", 4}, {"mass +  * 1", 8},
		{"Mass", 0}, {"massX", 4}, {"mass mass", 5}, {"mass2", 4}, {"2mass", 1}, {"masses", 0}, {"1 + masses", 4}, {"number", 0}, {"then", 0}, {"else", 0}, {"or", 0},
		{"01", 0}, {"1/0", 0}, {"1/1", 0}, {"0/2", 0}, {"1/02", 0}, {"1/2/4/6", 4}, {"1/", 2}, {"/2", 0}, {"1//2", 2}, {"1/&", 2}, {"1.5", 1}, {"-0/1", 1},
		{string(nines(601)), 0}, {"1/" + string(nines(601)), 0}, {"1 + " + string(nines(601)), 4},
		{"1 < 2 < 3", 6}, {"1 = 2 <= 3", 6}, {"1 < = 2", 4}, {"1 <=", 4}, {"1 <", 3}, {"<=", 0}, {"1 > 2", 2}, {"1 <> 2", 3}, {"1 == 2", 3}, {"1 =< 2", 3},
		{"1 + not 2", 4}, {"-not 1=2", 1}, {"1 + if 1=2 then 1 else 2", 4}, {"not if 1=2 then 1 else 2", 4}, {"-if 1=2 then 1 else 2", 1}, {"1=2 and if 1=2 then 1 else 2", 8},
		{"if", 2}, {"if 1=2", 6}, {"if 1=2 else 1", 7}, {"if 1=2 then 1", 13}, {"if 1=2 then 1 then 2", 14}, {"if 1=2 then 1 else", 18}, {"if 1=2 then 1 else 2 else 3", 21},
		{"(", 1}, {")", 0}, {"()", 1}, {"(1", 2}, {"(1))", 3}, {"(1,2)", 2}, {"min", 3}, {"min 1", 4}, {"min(", 4}, {"min()", 4}, {"min(1)", 5}, {"min(1,", 6}, {"min(1,2", 7},
		{"min(1,2,3)", 7}, {"max(1 2)", 6}, {"floor", 5}, {"floor(1,2)", 7}, {"floor()", 6}, {"floor 1", 6}, {"floor(1", 7}, {"mass(1)", 4}, {"not", 3}, {"-", 1}, {"+1", 0}, {"1+", 2}, {"1 and", 5},
		{"1 and or", 6}, {"not and", 4}, {"1,2", 1}, {",", 0}, {"1\n", 1}, {"\t1", 0}, {"1 \r", 2}, {"1\x00", 1}, {"é", 0}, {"1 + é", 4}, {"1\xff", 1}, {"day:", 3},
		{") &", 0}, {"& )", 0}, {"1 + ) 2/4", 4}, {"1 + 2/4 )", 4}, {"mass days &", 5}, {strings.Repeat("(", 4096), 4096}, {strings.Repeat("-", 4096), 4096}, {strings.Repeat("not ", 1024), 4096},
	} {
		got, n, e := ledger.Read(x.text)
		what := fmt.Sprintf("Read of %.80q", x.text)
		expect(t, what, []any{n, e}, []any{x.at, api.ErrSyntax})
		expectTree(t, what, got, api.Expr{})
		if len(x.text) < 1000 {
			tokens, places := lex(x.text)
			expect(t, "the definition of "+what, places[firstError(tokens)], x.at)
		}
	}
}

func TestErrorsBehindTheSyntax(t *testing.T) {
	spaces := func(n int) string { return strings.Repeat(" ", n) }
	for _, x := range []struct {
		text string
		e    api.Errno
	}{
		{"mass and 1", api.ErrType}, {"not 1", api.ErrType}, {"if 1 then 2 else 3", api.ErrType}, {"(1 = 2) + 3", api.ErrType}, {"1 < (2 < 3)", api.ErrType}, {"-(1 = 2)", api.ErrType},
		{"1 = 2 = 3", api.ErrSyntax}, {"(1 = 2) = (2 = 3)", api.ErrType}, {"min(1 = 2, 3)", api.ErrType}, {"if 1 = 2 then 3 = 4 else 5", api.ErrType},
		{strings.Repeat("-", 31) + "1", api.OK}, {strings.Repeat("-", 32) + "1", api.ErrLimit}, {strings.Repeat("1+", 31) + "1", api.OK}, {strings.Repeat("1+", 32) + "1", api.ErrLimit},
		{strings.Repeat("-", 255) + "1", api.ErrLimit}, {strings.Repeat("-", 256) + "1", api.ErrMany}, {strings.Repeat("-", 4095) + "1", api.ErrMany}, {strings.Repeat("1+", 2047) + "1", api.ErrMany},
		{strings.Repeat("-", 32) + "(1 = 2)", api.ErrLimit}, {strings.Repeat("-", 4095) + "&", api.ErrSyntax}, {strings.Repeat("(", 2047) + "1" + strings.Repeat(")", 2047), api.OK},
		{"1" + spaces(4095), api.OK}, {spaces(4095) + "1", api.OK}, {"1" + spaces(4096), api.ErrLong}, {"&" + spaces(4096), api.ErrLong}, {"&" + spaces(4095), api.ErrSyntax},
	} {
		_, n, e := ledger.Read(x.text)
		what := fmt.Sprintf("Read of %.80q", x.text)
		expect(t, what, e, x.e)
		if e != api.ErrSyntax {
			expect(t, what, n, 0)
		}
	}
	text := ok[string](t, "256 expressions")(ledger.Print(nested(1, balanced(128, num("1")))))
	_, _, e := ledger.Read(text)
	expect(t, "Read of 256 expressions", e, api.OK)
	_, _, e = ledger.Read("-" + text)
	expect(t, "Read of 257 expressions", e, api.ErrMany)
}

// TestPrintAgainstDefinition checks the text of random expressions: whether it has the right parentheses and blanks, and is read back.
func TestPrintAgainstDefinition(t *testing.T) {
	r := rand.New(rand.NewSource(6))
	for range 1200 {
		x := randomExpr(r, "nc"[r.Intn(2)], 1+r.Intn(4))
		if l, _ := parts(x); len(l) > 25 {
			continue
		}
		text := ok[string](t, outline(x))(ledger.Print(x))
		expect(t, "Print of "+outline(x), text, printed(x))
	}
	for range 3000 {
		x := randomExpr(r, "nc"[r.Intn(2)], 1+r.Intn(7))
		text, e := ledger.Print(x)
		if _, isBad := exprError(x); isBad != api.OK || e == api.ErrLong {
			continue
		}
		again, n, e := ledger.Read(text)
		expect(t, "Read of "+text, []any{n, e}, []any{0, api.OK})
		expectTree(t, "Read of "+text, again, x)
	}
}

// joined returns tokens as a text with blanks that are chosen at random, where there may be any.
func joined(r *rand.Rand, tokens []string) string {
	text := ""
	for i, token := range tokens {
		blanks := r.Intn(3)
		if i > 0 && blanks == 0 {
			// Without a blank they could be one token.
			together, _ := lex(tokens[i-1] + token)
			if len(together) != 2 || together[0] != tokens[i-1] {
				blanks = 1
			}
		}
		if token == "/" || i > 0 && tokens[i-1] == "/" {
			blanks = 1
		}
		text += strings.Repeat(" ", blanks) + token
	}
	return text + strings.Repeat(" ", r.Intn(2))
}

// TestReadAgainstDefinition checks random sentences of the grammar, and texts that are nearly one.
func TestReadAgainstDefinition(t *testing.T) {
	r := rand.New(rand.NewSource(7))
	pieces := []string{"+", "-", "*", "/", "<", "<=", "=", "(", ")", ",", "if", "then", "else", "and", "or", "not", "mass", "days", "day", "min", "max", "floor", "7", "1/2", "2/4", "x", "&", "é", "00"}
	codes := map[api.Errno]int{}
	for range 4000 {
		choices := r.Intn(60)
		tokens := randomSentence(r, "E", &choices)
		for range r.Intn(3) {
			at := r.Intn(len(tokens))
			switch r.Intn(3) {
			case 0:
				tokens = slices.Insert(tokens, at, pieces[r.Intn(len(pieces))])
			case 1:
				tokens[at] = pieces[r.Intn(len(pieces))]
			case 2:
				tokens = slices.Delete(tokens, at, at+min(1, len(tokens)-1))
			}
		}
		text := joined(r, tokens)
		tokens, places := lex(text)
		x, n, e := ledger.Read(text)
		codes[e]++
		if at := firstError(tokens); at >= 0 {
			expect(t, "Read of "+text, []any{n, e}, []any{places[at], api.ErrSyntax})
			continue
		}
		want := treeOf(tokens)
		_, wantError := exprError(want)
		expect(t, "Read of "+text, []any{n, e}, []any{0, wantError})
		if e == api.OK {
			expectTree(t, "Read of "+text, x, want)
		}
	}
	for _, e := range []api.Errno{api.OK, api.ErrSyntax, api.ErrType} {
		if codes[e] < 100 {
			t.Errorf("the error %d was returned %d times", e, codes[e])
		}
	}
}

func TestLongTexts(t *testing.T) {
	for _, bytes := range []int{4090, 4095, 4096} {
		x := sized(bytes)
		text := ok[string](t, "a long text")(ledger.Print(x))
		expect(t, "bytes of a long text", len(text), bytes)
		again, n, e := ledger.Read(text)
		expect(t, "Read of a long text", []any{n, e}, []any{0, api.OK})
		expectTree(t, "a long text", again, x)
	}
	for _, x := range []api.Expr{sized(4097), balanced(128, num(nines(600)))} {
		text, e := ledger.Print(x)
		expect(t, "Print of a text that is too long", []any{text, e}, []any{"", api.ErrLong})
	}
	x, n, e := ledger.Read(strings.Repeat("1", 4097))
	expect(t, "Read of a text that is too long", []any{outline(x), n, e}, []any{outline(api.Expr{}), 0, api.ErrLong})
}
