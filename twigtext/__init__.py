"""A language's texts and trees: twigtext.calls holds what may be called."""
