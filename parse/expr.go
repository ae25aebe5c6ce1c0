package parse

import (
	"strconv"

	"boxhedge/api"
	"boxhedge/wrap"
)

// tightest is the level of the grammar that has no operators with two operands.
const tightest = 11

// expr takes an expression whose tightest parts are of a depth.
func (p *parser) expr(depth int) api.Expr {
	return p.level(1, depth)
}

// level takes an expression without operators of lower levels outside of its
// brackets.
func (p *parser) level(level, depth int) api.Expr {
	if level == tightest {
		return p.tight(depth)
	}
	e := p.level(level+1, depth)
	for op := p.operator(level); op != 0; op = p.operator(level) {
		// All before the operator is its first operand: operators of one level
		// group from the left.
		e = api.Expr{Kind: api.Two, Op: op, Args: []api.Expr{e, p.level(level+1, depth)}}
	}
	return e
}

// operator takes the next token if it is the symbol of an operator of a level
// (0 for one with one operand), and is that operator, or 0.
func (p *parser) operator(level int) int {
	for op := api.Add; op <= api.U32; op++ {
		if wrap.Level(op) == level && p.take(wrap.Sign(op)) {
			return op
		}
	}
	return 0
}

// tight takes a part of an expression that no operator with two operands
// divides.
func (p *parser) tight(depth int) api.Expr {
	p.limit(depth)
	switch {
	case p.sees("("):
		return p.bracketed(depth + 1)
	case p.take("true"):
		return api.Expr{Kind: api.Truth, N: 1}
	case p.take("false"):
		return api.Expr{Kind: api.Truth}
	case p.take("read"):
		p.want("(")
		p.want(")")
		return api.Expr{Kind: api.Read}
	case p.ahead(api.Number):
		return api.Expr{Kind: api.Num, N: p.number()}
	case p.ahead(api.Name):
		return p.use(depth)
	}
	return p.one(depth)
}

// bracketed takes an expression whose tightest parts are of a depth, with the
// brackets around it.
func (p *parser) bracketed(depth int) api.Expr {
	p.want("(")
	e := p.expr(depth)
	p.want(")")
	return e
}

func (p *parser) number() int {
	n, _ := strconv.Atoi(p.text(api.Number)) // the tokens hold no number that is too great
	return n
}

// use takes what begins with a name: a variable, a call or an array's number.
func (p *parser) use(depth int) api.Expr {
	name := p.text(api.Name)
	switch {
	case p.take("("):
		return api.Expr{Kind: api.Call, Name: name, Args: p.args(depth + 1)}
	case p.take("["):
		place := p.expr(depth + 1)
		p.want("]")
		return api.Expr{Kind: api.Index, Name: name, Args: []api.Expr{place}}
	}
	return api.Expr{Kind: api.Var, Name: name}
}

// args takes what is behind the first bracket of a call; the tightest parts of
// the expressions there are of a depth.
func (p *parser) args(depth int) []api.Expr {
	return list(p, ",", ")", func() api.Expr { return p.expr(depth) })
}

// one takes an operator with one operand, and that; a conversion's operand
// stands in brackets.
func (p *parser) one(depth int) api.Expr {
	op := p.operator(0)
	if op == 0 {
		p.fail(api.ErrSyntax)
	}
	e := api.Expr{Kind: api.One, Op: op}
	if op >= api.I8 {
		e.Args = []api.Expr{p.bracketed(depth + 1)}
	} else {
		e.Args = []api.Expr{p.tight(depth + 1)}
	}
	return e
}
