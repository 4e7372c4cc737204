package ledger

import (
	"iter"
	"slices"

	"bushel/api"
	"bushel/measure"
)

// token is a token of a text, and the number of bytes before it. The end of the text is an empty token.
type token struct {
	text string
	at   int
}

// tokens visits the tokens of a text, and its end as the last one. A byte that belongs to none is one by itself, which the grammar permits nowhere.
func tokens(s string) iter.Seq[token] {
	return func(yield func(token) bool) {
		for at := 0; at < len(s); {
			size := tokenSize(s[at:])
			if s[at] != ' ' && !yield(token{s[at : at+size], at}) {
				return
			}
			at += size
		}
		yield(token{"", len(s)})
	}
}

// tokenSize returns the number of bytes of the first token of a text that is not empty; a blank counts as one.
func tokenSize(s string) int {
	if letters := runOf(s, isLetter); letters > 0 {
		return letters
	}
	if digits := runOf(s, isDigit); digits > 0 {
		return digits + fractionSize(s[digits:])
	}
	if len(s) > 1 && s[:2] == "<=" {
		return 2
	}
	return 1
}

// fractionSize returns the number of bytes of a slash with digits at the beginning of a text, or 0.
func fractionSize(s string) int {
	if s == "" || s[0] != '/' {
		return 0
	}
	digits := runOf(s[1:], isDigit)
	if digits == 0 {
		return 0
	}
	return 1 + digits
}

// runOf returns how many bytes of a kind a text begins with.
func runOf(s string, isOfKind func(c byte) bool) int {
	size := 0
	for size < len(s) && isOfKind(s[size]) {
		size++
	}
	return size
}

// isLetter reports whether a byte is a letter of names of the grammar.
func isLetter(c byte) bool { return c >= 'a' && c <= 'z' }

// isDigit reports whether a byte is a decimal digit.
func isDigit(c byte) bool { return c >= '0' && c <= '9' }

// grammarLevel is a level of the grammar: its operators, and what reads an expression of it. This returns false if the next token is not permitted.
type grammarLevel struct {
	operators []string
	read      func(level int) (api.Expr, bool)
}

// parser has the levels of the grammar, and the tokens that are still to be read, of which the last one is never taken.
type parser struct {
	levels []grammarLevel
	rest   []token
}

// newParser returns a parser of a text.
func newParser(s string) *parser {
	p := &parser{rest: slices.Collect(tokens(s))}
	p.levels = []grammarLevel{
		choiceLevel:     {nil, p.choice},
		orLevel:         {[]string{"or"}, p.chain},
		andLevel:        {[]string{"and"}, p.chain},
		notLevel:        {[]string{"not"}, p.prefix},
		comparisonLevel: {[]string{"<", "<=", "="}, p.comparison},
		sumLevel:        {[]string{"+", "-"}, p.chain},
		productLevel:    {[]string{"*", "/"}, p.chain},
		signLevel:       {[]string{"-"}, p.prefix},
		primaryLevel:    {nil, p.primary},
	}
	return p
}

// read reads an expression of a level.
func (p *parser) read(level int) (api.Expr, bool) { return p.levels[level].read(level) }

// take takes the next token if it is one of some texts, and returns it.
func (p *parser) take(texts ...string) (string, bool) {
	next := p.rest[0].text
	if !slices.Contains(texts, next) {
		return "", false
	}
	p.rest = p.rest[1:]
	return next, true
}

// takeOperator takes the next token if it is an operator of a level, and returns it.
func (p *parser) takeOperator(level int) (string, bool) { return p.take(p.levels[level].operators...) }

// operands reads expressions, each one behind its mark.
func (p *parser) operands(marks ...string) ([]api.Expr, bool) {
	var l []api.Expr
	for _, mark := range marks {
		if _, isThere := p.take(mark); !isThere {
			return nil, false
		}
		x, isRead := p.read(choiceLevel)
		if !isRead {
			return nil, false
		}
		l = append(l, x)
	}
	return l, true
}

// choice reads a choice, or an expression that binds more tightly.
func (p *parser) choice(level int) (api.Expr, bool) {
	if p.rest[0].text != "if" {
		return p.read(level + 1)
	}
	l, areRead := p.operands("if", "then", "else")
	return api.Expr{Op: "if", Args: l}, areRead
}

// chain reads expressions that bind more tightly, with operators between them, which associate to the left.
func (p *parser) chain(level int) (api.Expr, bool) {
	left, isRead := p.read(level + 1)
	for isRead {
		operator, goesOn := p.takeOperator(level)
		if !goesOn {
			break
		}
		left, isRead = p.joined(left, operator, level)
	}
	return left, isRead
}

// comparison reads one expression that binds more tightly, or two with an operator between them.
func (p *parser) comparison(level int) (api.Expr, bool) {
	left, isRead := p.read(level + 1)
	if !isRead {
		return api.Expr{}, false
	}
	operator, isCompared := p.takeOperator(level)
	if !isCompared {
		return left, true
	}
	return p.joined(left, operator, level)
}

// joined reads the operand behind an operator of a level, and returns the expression of both operands.
func (p *parser) joined(left api.Expr, operator string, level int) (api.Expr, bool) {
	right, isRead := p.read(level + 1)
	return api.Expr{Op: operator, Args: []api.Expr{left, right}}, isRead
}

// prefix reads an operator and its operand, or an expression that binds more tightly.
func (p *parser) prefix(level int) (api.Expr, bool) {
	operator, isThere := p.takeOperator(level)
	if !isThere {
		return p.read(level + 1)
	}
	operand, isRead := p.read(level)
	return api.Expr{Op: operator, Args: []api.Expr{operand}}, isRead
}

// primary reads a number, a name, a function, or an expression in parentheses. No level is tighter.
func (p *parser) primary(int) (api.Expr, bool) {
	switch next := p.rest[0].text; next {
	case "mass", "days", "day":
		p.take(next)
		return api.Expr{Op: next}, true
	case "min", "max":
		p.take(next)
		return p.enclosed(next, "(", ",")
	case "floor":
		p.take(next)
		return p.enclosed(next, "(")
	case "(":
		inner, isRead := p.enclosed("", "(")
		if !isRead {
			return api.Expr{}, false
		}
		return inner.Args[0], true
	}
	return p.number()
}

// enclosed reads the operands of a function, each one behind its mark, and the closing parenthesis.
func (p *parser) enclosed(name string, marks ...string) (api.Expr, bool) {
	l, areRead := p.operands(marks...)
	if !areRead {
		return api.Expr{}, false
	}
	_, isClosed := p.take(")")
	return api.Expr{Op: name, Args: l}, isClosed
}

// number reads a number.
func (p *parser) number() (api.Expr, bool) {
	// No token but a number is the text of a number without a minus sign.
	next := p.rest[0].text
	if measure.Check(api.Rat(next)) != api.OK {
		return api.Expr{}, false
	}
	p.take(next)
	return api.Expr{Op: "number", Value: api.Rat(next)}, true
}

// Read returns the expression that a text describes, or the number of bytes before its first error.
func Read(s string) (api.Expr, int, api.Errno) {
	if len(s) > api.MaxText {
		return api.Expr{}, 0, api.ErrLong
	}
	p := newParser(s)
	x, isRead := p.read(choiceLevel)
	if next := p.rest[0]; !isRead || next.text != "" {
		return api.Expr{}, next.at, api.ErrSyntax
	}
	if _, e := CheckExpr(x); e != api.OK {
		return api.Expr{}, 0, e
	}
	return x, 0, api.OK
}
