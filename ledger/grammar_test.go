package ledger_test

import (
	"math/big"
	"math/rand"
	"regexp"
	"slices"
	"strings"

	"bushel/api"
)

// The grammar of the chapter, which these tests read with a recognizer for any grammar (Earley's), and what an expression means.

// opTypes are the types of each Op: those of its operands, and its own as the last one; n is a number, and c a condition.
func opTypes() map[string][]string {
	return map[string][]string{
		"number": {"n"}, "mass": {"n"}, "days": {"n"}, "day": {"n"}, "-": {"nn", "nnn"}, "+": {"nnn"}, "*": {"nnn"}, "/": {"nnn"},
		"min": {"nnn"}, "max": {"nnn"}, "floor": {"nn"}, "<": {"nnc"}, "<=": {"nnc"}, "=": {"nnc"},
		"not": {"cc"}, "and": {"ccc"}, "or": {"ccc"}, "if": {"cnnn"},
	}
}

// typesOf returns the types of an expression with so many operands, or none.
func typesOf(x api.Expr) string {
	for _, types := range opTypes()[x.Op] {
		if len(types) == len(x.Args)+1 {
			return types
		}
	}
	return ""
}

// parts returns an expression and all those in it, each one before its operands, with their depths.
func parts(x api.Expr) ([]api.Expr, []int) {
	l, depths := []api.Expr{x}, []int{1}
	for _, operand := range x.Args {
		inner, below := parts(operand)
		l = append(l, inner...)
		for _, depth := range below {
			depths = append(depths, depth+1)
		}
	}
	return l, depths
}

// exprError returns the type of an expression, or its error.
func exprError(x api.Expr) (string, api.Errno) {
	l, depths := parts(x)
	switch {
	case len(l) > 256:
		return "", api.ErrMany
	case slices.Max(depths) > 32:
		return "", api.ErrLimit
	}
	for _, part := range l {
		if _, exists := opTypes()[part.Op]; !exists {
			return "", api.ErrKind
		}
		if typesOf(part) == "" {
			return "", api.ErrShape
		}
		if part.Op != "number" {
			if part.Value != "" {
				return "", api.ErrForm
			}
			continue
		}
		r, isNumber := new(big.Rat).SetString(string(part.Value))
		switch {
		case !isNumber || strings.ContainsAny(string(part.Value), ".e+_ xpb"):
			return "", api.ErrForm
		case !isShort(r):
			return "", api.ErrLarge
		case r.RatString() != string(part.Value):
			return "", api.ErrForm
		case r.Sign() < 0:
			return "", api.ErrRange
		}
	}
	for _, part := range l {
		for i, operand := range part.Args {
			types := typesOf(operand)
			if types[len(types)-1] != typesOf(part)[i] {
				return "", api.ErrType
			}
		}
	}
	return map[bool]string{true: "number", false: "condition"}[strings.HasSuffix(typesOf(x), "n")], api.OK
}

// productions are those of the grammar: a symbol, and what it may stand for. NUM is a number.
func productions() [][]string {
	var l [][]string
	for _, line := range strings.Split(`E if E then E else E
E O
O A
O O or A
A N
A A and N
N not N
N C
C S
C S < S
C S <= S
C S = S
S P
S S + P
S S - P
P G
P P * G
P P / G
G - G
G R
R NUM
R mass
R days
R day
R min ( E , E )
R max ( E , E )
R floor ( E )
R ( E )`, "\n") {
		l = append(l, strings.Fields(line))
	}
	return l
}

// tokenPattern is that of a token, or of a byte that belongs to none; numberPattern is that of a number token.
var (
	tokenPattern  = regexp.MustCompile(`(?s)\A(?:[a-z]+|[0-9]+(?:/[0-9]+)?|<=|.)`)
	numberPattern = regexp.MustCompile(`\A[0-9/]+\z`)
)

// lex returns the tokens of a text, and the bytes before each of them. A byte that belongs to none is one by itself.
func lex(s string) ([]string, []int) {
	var l []string
	var places []int
	for at := 0; at < len(s); {
		text := s[at : at+1]
		if s[at] < 0x80 {
			text = tokenPattern.FindString(s[at:])
		}
		if text != " " {
			l, places = append(l, text), append(places, at)
		}
		at += len(text)
	}
	return l, append(places, len(s))
}

// isNumberToken reports whether a token is the text of a number.
func isNumberToken(token string) bool {
	r, isNumber := new(big.Rat).SetString(token)
	return isNumber && numberPattern.MatchString(token) && r.RatString() == token && isShort(r)
}

// grammar has the productions.
var grammar = productions()

// item is a production, how much of it has been found, and the token at which it began.
type item struct{ rule, found, start int }

// firstError returns the number of the first token that the grammar does not permit, where the end counts as a token, or -1 for a sentence of the grammar.
func firstError(tokens []string) int {
	rules := grammar
	sets := make([][]item, len(tokens)+2)
	add := func(at int, i item) {
		if !slices.Contains(sets[at], i) {
			sets[at] = append(sets[at], i)
		}
	}
	for n, rule := range rules {
		if rule[0] == "E" {
			add(0, item{n, 1, 0})
		}
	}
	for at := 0; at <= len(tokens); at++ {
		for n := 0; n < len(sets[at]); n++ {
			i := sets[at][n]
			if i.found == len(rules[i.rule]) {
				for _, outer := range sets[i.start] {
					if outer.found < len(rules[outer.rule]) && rules[outer.rule][outer.found] == rules[i.rule][0] {
						add(at, item{outer.rule, outer.found + 1, outer.start})
					}
				}
				continue
			}
			wanted := rules[i.rule][i.found]
			for number, rule := range rules {
				if rule[0] == wanted {
					add(at, item{number, 1, at})
				}
			}
			if at < len(tokens) && (wanted == tokens[at] || wanted == "NUM" && isNumberToken(tokens[at])) {
				add(at+1, item{i.rule, i.found + 1, i.start})
			}
		}
		if len(sets[at]) == 0 {
			return at - 1
		}
	}
	for _, i := range sets[len(tokens)] {
		if i.start == 0 && rules[i.rule][0] == "E" && i.found == len(rules[i.rule]) {
			return -1
		}
	}
	return len(tokens)
}

// treeOf returns the tree of a sentence of the grammar, by looking for its loosest operator.
func treeOf(tokens []string) api.Expr {
	if tokens[0] == "if" {
		then, otherwise := branches(tokens)
		return tree("if", treeOf(tokens[1:then]), treeOf(tokens[then+1:otherwise]), treeOf(tokens[otherwise+1:]))
	}
	for _, operators := range [][]string{{"or"}, {"and"}, {"not"}, {"<", "<=", "="}, {"+", "-"}, {"*", "/"}} {
		if operators[0] == "not" && tokens[0] == "not" {
			return tree("not", treeOf(tokens[1:]))
		}
		if at := lastBetween(tokens, operators); at > 0 {
			return tree(tokens[at], treeOf(tokens[:at]), treeOf(tokens[at+1:]))
		}
	}
	last := len(tokens) - 1
	switch first := tokens[0]; {
	case first == "-":
		return tree("-", treeOf(tokens[1:]))
	case first == "(":
		return treeOf(tokens[1:last])
	case first == "floor":
		return tree(first, treeOf(tokens[2:last]))
	case first == "min" || first == "max":
		comma := 2 + lastBetween(tokens[2:last], []string{","})
		return tree(first, treeOf(tokens[2:comma]), treeOf(tokens[comma+1:last]))
	case first >= "a":
		return tree(first)
	}
	return num(api.Rat(tokens[0]))
}

// lastBetween returns the place of the last one of some operators that has two operands and is in no parentheses, or 0.
func lastBetween(tokens, operators []string) int {
	place, depth := 0, 0
	for at, token := range tokens {
		switch token {
		case "(":
			depth++
		case ")":
			depth--
		}
		if depth == 0 && at > 0 && slices.Contains(operators, token) && isEnd(tokens[at-1]) {
			place = at
		}
	}
	return place
}

// isEnd reports whether a token is the last one of some operand.
func isEnd(token string) bool {
	return token == ")" || token == "mass" || token == "days" || token == "day" || token[0] >= '0' && token[0] <= '9'
}

// branches returns the places of "then" and "else" of a choice.
func branches(tokens []string) (int, int) {
	then, open, depth := 0, 0, 0
	for at, token := range tokens {
		switch token {
		case "(":
			depth++
		case ")":
			depth--
		case "if":
			if depth == 0 {
				open++
			}
		case "then":
			if depth == 0 && open == 1 {
				then = at
			}
		case "else":
			if depth > 0 {
				continue
			}
			if open == 1 {
				return then, at
			}
			open--
		}
	}
	return 0, 0
}

// enclosed returns the tokens of an expression with all operands in parentheses.
func enclosed(x api.Expr) []string {
	var l [][]string
	for _, operand := range x.Args {
		l = append(l, slices.Concat([]string{"("}, enclosed(operand), []string{")"}))
	}
	switch {
	case x.Op == "number":
		return []string{string(x.Value)}
	case len(l) == 0:
		return []string{x.Op}
	case x.Op == "if":
		return slices.Concat([]string{"if"}, l[0], []string{"then"}, l[1], []string{"else"}, l[2])
	case x.Op == "floor":
		return slices.Concat([]string{x.Op, "("}, l[0], []string{")"})
	case x.Op == "min" || x.Op == "max":
		return slices.Concat([]string{x.Op, "("}, l[0], []string{","}, l[1], []string{")"})
	case len(l) == 1:
		return append([]string{x.Op}, l[0]...)
	}
	return slices.Concat(l[0], []string{x.Op}, l[1])
}

// needed returns tokens without the parentheses without which they are read as the same tree.
func needed(tokens []string, x api.Expr) []string {
	for at := 0; at < len(tokens); {
		without, isPair := withoutPair(tokens, at)
		if isPair && firstError(without) == -1 && outline(treeOf(without)) == outline(x) {
			tokens = without
			continue
		}
		at++
	}
	return tokens
}

// withoutPair returns tokens without the parenthesis at a place and that which closes it, unless it is that of a function.
func withoutPair(tokens []string, at int) ([]string, bool) {
	if tokens[at] != "(" || at > 0 && slices.Contains([]string{"min", "max", "floor"}, tokens[at-1]) {
		return nil, false
	}
	depth, end := 0, at
	for ; depth > 0 || end == at; end++ {
		switch tokens[end] {
		case "(":
			depth++
		case ")":
			depth--
		}
	}
	return slices.Concat(tokens[:at], tokens[at+1:end-1], tokens[end:]), true
}

// spaced returns the printed text of tokens.
func spaced(tokens []string) string {
	text := ""
	for i, token := range tokens {
		switch {
		case token == "if" || token == "not" || token == ",":
			text += token + " "
		case token == "then" || token == "else" || token == "and" || token == "or":
			text += " " + token + " "
		case strings.Contains("+-*/<=", token) && i > 0 && isEnd(tokens[i-1]):
			text += " " + token + " "
		default:
			text += token
		}
	}
	return text
}

// printed returns the printed text of an expression.
func printed(x api.Expr) string { return spaced(needed(enclosed(x), x)) }

// valued is the value of an expression, and what was evaluated for it.
type valued struct {
	number  *big.Rat
	holds   bool
	isLarge bool
	names   map[string]bool
}

// valueOf returns the value of an expression for mass, days and day.
func valueOf(x api.Expr, at map[string]int) valued {
	v := valued{number: new(big.Rat), names: map[string]bool{}}
	take := func(operand api.Expr) valued {
		inner := valueOf(operand, at)
		v.isLarge = v.isLarge || inner.isLarge
		for name := range inner.names {
			v.names[name] = true
		}
		return inner
	}
	if x.Op == "if" {
		chosen := x.Args[2]
		if take(x.Args[0]).holds {
			chosen = x.Args[1]
		}
		v.number = take(chosen).number
		return v
	}
	operands := []valued{{}, {}}
	for i, operand := range x.Args {
		operands[i] = take(operand)
	}
	a, b := operands[0], operands[1]
	switch x.Op {
	case "mass", "days", "day":
		v.number, v.names[x.Op] = whole(at[x.Op]), true
	case "number":
		v.number = toBig(x.Value)
	case "not":
		v.holds = !a.holds
	case "and":
		v.holds = a.holds && b.holds
	case "or":
		v.holds = a.holds || b.holds
	case "<":
		v.holds = a.number.Cmp(b.number) == -1
	case "<=":
		v.holds = a.number.Cmp(b.number) != 1
	case "=":
		v.holds = a.number.Cmp(b.number) == 0
	case "floor":
		v.number.SetInt(new(big.Int).Div(a.number.Num(), a.number.Denom()))
	default:
		v.number = operation(x, a.number, b.number)
	}
	v.isLarge = v.isLarge || !isShort(v.number)
	return v
}

// operation returns the value of an operator with one or two numbers.
func operation(x api.Expr, a, b *big.Rat) *big.Rat {
	z := new(big.Rat)
	switch {
	case len(x.Args) == 1:
		return z.Neg(a)
	case x.Op == "+":
		return z.Add(a, b)
	case x.Op == "-":
		return z.Sub(a, b)
	case x.Op == "*":
		return z.Mul(a, b)
	case x.Op == "/" && b.Sign() == 0:
		return z
	case x.Op == "/":
		return z.Quo(a, b)
	case (x.Op == "min") == (a.Cmp(b) < 0):
		return a
	}
	return b
}

// randomExpr returns an expression of a type, n or c, with at most such a depth.
func randomExpr(r *rand.Rand, kind byte, depth int) api.Expr {
	for {
		x := api.Expr{Op: []string{"number", "mass", "days", "day", "-", "+", "*", "/", "min", "max", "floor", "<", "<=", "=", "not", "and", "or", "if"}[r.Intn(18)]}
		types := opTypes()[x.Op]
		own := types[r.Intn(len(types))]
		last := len(own) - 1
		// A condition needs operands, and these may be leaves.
		if own[last] != kind || last > 0 && depth <= 1 {
			if kind == 'c' && depth <= 1 {
				depth = 2
			}
			continue
		}
		if x.Op == "number" {
			x.Value = []api.Rat{"0", "1", "2", "3", "7", "10", "1/2", "3/2", "5/7", "100", "1/1000"}[r.Intn(11)]
		}
		for i := range last {
			x.Args = append(x.Args, randomExpr(r, own[i], depth-1))
		}
		return x
	}
}

// randomSentence returns tokens that a symbol of the grammar may stand for; types are not looked at. Behind so many choices it is as short as possible.
func randomSentence(r *rand.Rand, symbol string, choices *int) []string {
	if symbol == "NUM" {
		return []string{[]string{"0", "1", "12", "1/2", "7/3"}[r.Intn(5)]}
	}
	var own [][]string
	for _, p := range grammar {
		if p[0] == symbol {
			own = append(own, p[1:])
		}
	}
	if len(own) == 0 {
		return []string{symbol}
	}
	p := own[r.Intn(len(own))]
	if *choices--; *choices < 0 {
		p = map[string][]string{"E": {"O"}, "O": {"A"}, "A": {"N"}, "N": {"C"}, "C": {"S"}, "S": {"P"}, "P": {"G"}, "G": {"R"}, "R": {"mass"}}[symbol]
	}
	var l []string
	for _, part := range p {
		l = append(l, randomSentence(r, part, choices)...)
	}
	return l
}
