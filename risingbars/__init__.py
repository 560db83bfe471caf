"""What the grades of judges prove whose standards drift one way."""
