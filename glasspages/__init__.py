"""Pages: workshops as bytes, judged by the rules of their form, and printed as pages."""
