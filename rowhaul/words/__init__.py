"""Words, records, expressions and folds."""
