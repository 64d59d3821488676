"""How far arms reach, and the zones that keep people from them."""
