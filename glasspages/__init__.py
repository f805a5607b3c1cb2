"""Pages: workshops as bytes, judged by the rules of their form."""
