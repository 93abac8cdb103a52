"""All words of a pattern, in order: counted, one by its number, or handed over until someone says stop."""
