package wire

import "tollhouse/api"

func (c *coder) outpoint(o *api.Outpoint) {
	c.digest(&o.Tx)
	c.word(&o.Index)
}

func (c *coder) tag(t *api.Tag) {
	c.truth(&t.Blind)
	if t.Blind {
		c.point(&t.Point)
		c.must(t.Id == api.Digest{})
	} else {
		c.digest(&t.Id)
		c.must(t.Point == api.Point{})
	}
}

func (c *coder) amount(a *api.Amount) {
	c.truth(&a.Blind)
	if a.Blind {
		c.point(&a.Point)
		c.must(a.Value == 0)
	} else {
		c.long(&a.Value)
		c.must(a.Point == api.Point{})
	}
}

func (c *coder) out(o *api.Out) {
	c.octet(&o.Kind)
	switch o.Kind {
	case api.OutPay:
		fallthrough
	case api.OutFee:
		fallthrough
	case api.OutBurn:
		fallthrough
	case api.OutPegOut:
		c.tag(&o.Asset)
		c.amount(&o.Amount)
		c.text(&o.Range, api.MaxProof)
		c.text(&o.Surject, api.MaxProof)
		c.text(&o.Note, api.MaxNote)
		c.text(&o.Script, api.MaxScript)
	default:
		c.must(false)
	}
}

func (c *coder) issue(i *api.Issue) {
	c.octet(&i.Kind)
	switch i.Kind {
	case api.IssueNone:
		c.must(noIssue(*i))
	case api.IssueNew:
		fallthrough
	case api.IssueAgain:
		c.amount(&i.Amount)
		c.text(&i.Range, api.MaxProof)
		c.long(&i.Tokens)
		c.digest(&i.Entropy)
		c.scalar(&i.Blind)
	default:
		c.must(false)
	}
}

// noIssue tells whether nothing is said of an issuance but its kind.
func noIssue(i api.Issue) bool {
	return i.Amount == api.Amount{} && len(i.Range) == 0 && i.Tokens == 0 && i.Entropy == api.Digest{} && i.Blind == api.Scalar{}
}

func (c *coder) peg(p *api.Peg) {
	c.digest(&p.Header)
	c.text(&p.Tx, api.MaxMainTx)
	c.word(&p.Place)
	c.word(&p.Many)
	list(c, &p.Path, api.MaxPath, (*coder).digest)
	c.text(&p.Script, api.MaxScript)
}

// noPeg tells whether nothing is said of a peg-in.
func noPeg(p api.Peg) bool {
	return p.Header == api.Digest{} && len(p.Tx) == 0 && p.Place == 0 && p.Many == 0 && len(p.Path) == 0 && len(p.Script) == 0
}

func (c *coder) in(i *api.In) {
	c.octet(&i.Kind)
	c.outpoint(&i.Prev)
	c.issue(&i.Issue)
	switch i.Kind {
	case api.InSpend:
		c.must(noPeg(i.Peg))
	case api.InPeg:
		c.peg(&i.Peg)
	default:
		c.must(false)
	}
	list(c, &i.Witness, api.MaxWitness, (*coder).witness)
}

// witness takes one thing of a witness.
func (c *coder) witness(b *[]byte) { c.text(b, api.MaxItem) }

func (c *coder) tx(t *api.Tx) {
	c.long(&t.After)
	list(c, &t.Ins, api.MaxIns, (*coder).in)
	list(c, &t.Outs, api.MaxOuts, (*coder).out)
}

func (c *coder) params(p *api.Params) {
	c.octet(&p.T)
	list(c, &p.Keys, api.MaxKeys, (*coder).key)
}

func (c *coder) header(h *api.Header) {
	c.digest(&h.Prev)
	c.long(&h.Height)
	c.long(&h.Time)
	c.digest(&h.Root)
	c.digest(&h.Main)
	c.text(&h.Reward, api.MaxScript)
	c.truth(&h.Change)
	if h.Change {
		c.params(&h.Next)
	} else {
		c.must(h.Next.T == 0 && len(h.Next.Keys) == 0)
	}
}

func (c *coder) signed(s *api.Signed) {
	c.octet(&s.Key)
	c.raw(s.Sig[:])
}

func (c *coder) block(b *api.Block) {
	c.header(&b.Header)
	list(c, &b.Sigs, api.MaxKeys, (*coder).signed)
	list(c, &b.Txs, api.MaxTxs, (*coder).tx)
}

func (c *coder) mainOut(o *api.MainOut) {
	c.long(&o.Value)
	c.digest(&o.Claim)
}

func (c *coder) mainTx(t *api.MainTx) {
	c.long(&t.Nonce)
	list(c, &t.Outs, api.MaxMainOut, (*coder).mainOut)
}

func (c *coder) mainHeader(h *api.MainHeader) {
	c.digest(&h.Prev)
	c.digest(&h.Root)
	c.long(&h.Height)
	c.long(&h.Nonce)
}

func (c *coder) config(f *api.Config) {
	c.digest(&f.Peg)
	c.long(&f.Depth)
	c.params(&f.Fed)
	c.mainHeader(&f.Main)
	list(c, &f.Coins, api.MaxCoins, (*coder).out)
}
