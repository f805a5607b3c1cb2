"""Pages: workshops as bytes, judged by the rules of their form, printed as pages and read back.

Their cartoons can be told, and changed for others.
"""
