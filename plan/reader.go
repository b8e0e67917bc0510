package plan

import (
	"carrefour/api"
	"carrefour/lex"
)

// reader is at one of a text's tokens. Nothing goes on behind the last one, TEnd, so there is always one.
type reader struct {
	tokens []api.Token
	at     int
}

func (r *reader) now() api.Token { return r.tokens[r.at] }

func (r *reader) refuse(e api.Errno, wrong bool) {
	if wrong {
		panic(fault{e, r.now().Pos})
	}
}

func (r *reader) want(right bool) { r.refuse(api.ErrWant, !right) }

func (r *reader) each(things ...any) {
	for _, thing := range things {
		t := r.now()
		switch x := thing.(type) {
		case string:
			r.want(t.Text == x)
		case *string:
			r.want(isName(t))
			*x = t.Text
		case *int64:
			r.want(t.Kind == api.TNum)
			*x = t.Num
		case *bool:
			*x = t.Text == answer(true)
			r.want(t.Text == answer(*x))
		}
		r.at++
	}
}

func isName(t api.Token) bool { return t.Kind == api.TWord && !lex.Reserved(t.Text) }

// more goes by the token alone: a row that is read is as long as what was read of it.
func (r *reader) more(word string, at, many, least, most int) bool {
	there := r.now().Text == word
	r.refuse(api.ErrLong, there && many == most)
	r.want(there || many >= least)
	return there
}

func (r *reader) end() { r.want(r.now().Kind == api.TEnd) }
