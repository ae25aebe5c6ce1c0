package parse

import "boxhedge/api"

// program takes all tokens up to End.
func (p *parser) program() api.Prog {
	var prog api.Prog
	for !p.ahead(api.End) {
		kind := p.kind()
		name := p.text(api.Name)
		if kind == api.Int && len(prog.Funcs) == 0 && p.take("[") {
			prog.Arrays = append(prog.Arrays, p.array(name))
		} else {
			prog.Funcs = append(prog.Funcs, p.function(kind, name))
		}
	}
	return prog
}

// kind takes a type of the language.
func (p *parser) kind() int {
	if p.take("bool") {
		return api.Bool
	}
	p.want("int")
	return api.Int
}

// array takes what is behind the first bracket of an array.
func (p *parser) array(name string) api.Array {
	size := p.number()
	p.want("]")
	p.want(";")
	return api.Array{Name: name, Size: size}
}

// function takes what is behind the name of a function.
func (p *parser) function(kind int, name string) api.Func {
	p.want("(")
	params := list(p, ",", ")", p.param)
	return api.Func{Name: name, Type: kind, Params: params, Body: p.block(1)}
}

func (p *parser) param() api.Param {
	kind := p.kind()
	return api.Param{Name: p.text(api.Name), Type: kind}
}

// block takes statements of a depth with the braces around them.
func (p *parser) block(depth int) []api.Stmt {
	p.want("{")
	return list(p, "", "}", func() api.Stmt { return p.stmt(depth) })
}

func (p *parser) stmt(depth int) api.Stmt {
	p.limit(depth)
	switch {
	case p.take("if"):
		return p.choice(depth)
	case p.take("while"):
		e := p.bracketed(1)
		return api.Stmt{Kind: api.While, Args: []api.Expr{e}, Then: p.block(depth + 1)}
	}
	s := p.plain()
	p.want(";")
	return s
}

// choice takes what is behind the if of a statement of a depth.
func (p *parser) choice(depth int) api.Stmt {
	e := p.bracketed(1)
	s := api.Stmt{Kind: api.If, Args: []api.Expr{e}, Then: p.block(depth + 1)}
	if p.take("else") {
		s.Else = p.block(depth + 1)
	}
	return s
}

// plain takes a statement without blocks, up to its semicolon.
func (p *parser) plain() api.Stmt {
	switch {
	case p.take("break"):
		return api.Stmt{Kind: api.Break}
	case p.take("continue"):
		return api.Stmt{Kind: api.Continue}
	case p.take("return"):
		return api.Stmt{Kind: api.Return, Args: []api.Expr{p.expr(1)}}
	case p.take("print"):
		return api.Stmt{Kind: api.Print, Args: []api.Expr{p.bracketed(1)}}
	case p.ahead(api.Name):
		return p.named()
	}
	kind := p.kind()
	name := p.text(api.Name)
	p.want("=")
	return api.Stmt{Kind: api.Let, Type: kind, Name: name, Args: []api.Expr{p.expr(1)}}
}

// named takes a statement that begins with a name, up to its semicolon.
func (p *parser) named() api.Stmt {
	name := p.text(api.Name)
	switch {
	case p.take("("):
		call := api.Expr{Kind: api.Call, Name: name, Args: p.args(2)}
		return api.Stmt{Kind: api.Do, Args: []api.Expr{call}}
	case p.take("["):
		place := p.expr(1)
		p.want("]")
		p.want("=")
		return api.Stmt{Kind: api.Put, Name: name, Args: []api.Expr{place, p.expr(1)}}
	}
	p.want("=")
	return api.Stmt{Kind: api.Set, Name: name, Args: []api.Expr{p.expr(1)}}
}
